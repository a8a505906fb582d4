"""Histories: what something was ahead of each change, so that changes can be taken back and trials be left."""

from fallranks.errors import NothingToUndo


class History:
    """The states of something, from the first one to the present one; a state itself never changes."""

    def __init__(self, state):
        self.states = (state,)

    def present(self):
        """The state as it is now."""
        return self.states[-1]

    def change(self, state):
        """Makes this the present state."""
        self.states = (*self.states, state)

    def many_changes(self):
        """How many changes can be taken back."""
        return len(self.states) - 1

    def back(self):
        """Takes back the last change."""
        if len(self.states) == 1:
            raise NothingToUndo()
        self.states = self.states[:-1]


class Mark:
    """States that a trial may come back to, above the mark that was made before this one."""

    def __init__(self, states, below):
        self.states = states
        self.below = below
