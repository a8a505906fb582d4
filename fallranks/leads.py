"""Leads: walks that are led by hand, with taking back and trials."""

from fallranks.errors import Stuck
from fallranks.histories import History, Mark
from fallranks.programs import check_index, check_place, check_point, check_program
from fallranks.walking import fits, state_behind


class Lead:
    """A walk through a program, one branch after another.

    Each state of its history is a triple: the index of the branch that was
    taken last, None at first, and the place and the point behind it.
    """

    def __init__(self, program, place, point):
        check_program(program)
        check_place(program, place)
        check_point(program, point)
        self._program = program
        self._history = History((None, place, point))

    def take(self, index):
        """Takes a branch, and returns the point behind it."""
        check_index(self._program, index)
        branch = self._program.branches[index]
        if not fits(branch, self.place, self.point):
            raise Stuck(index)
        place, point = state_behind(branch, self.point)
        self._history.change((index, place, point))
        return point

    def undo(self):
        """Takes back the last branch that was not taken back."""
        self._history.back()

    def trial(self):
        """For a `with` statement, behind which the lead is as it was ahead of it."""
        return Trial(self, self._history)

    def tried(self, action):
        """What the function returns for the lead, which is then as it was."""
        with self.trial() as lead:
            return action(lead)

    @property
    def program(self):
        """The program."""
        return self._program

    @property
    def place(self):
        """The place, as it is now."""
        return self._history.present()[1]

    @property
    def point(self):
        """The point, as it is now."""
        return self._history.present()[2]

    @property
    def taken(self):
        """The indexes of the branches that were taken and not taken back."""
        return tuple([state[0] for state in self._history.states[1:]])

    @property
    def ready(self):
        """The indexes of the branches that can be taken now."""
        branches = self._program.branches
        return tuple([index for index, branch in enumerate(branches) if fits(branch, self.place, self.point)])

    @property
    def again(self):
        """How many branches ago the state was the same the last time, None if it was not."""
        states = self._history.states
        for ago in range(1, len(states)):
            if states[-1 - ago][1:] == states[-1][1:]:
                return ago
        return None

    def __len__(self):
        return len(self._history.states[1:])

    def __bool__(self):
        return True

    def __eq__(self, other):
        # Each lead has a history of its own, so none is equal to another one.
        return isinstance(other, Lead) and self._history == other._history


class Trial:
    """What `with` takes for a trial of a lead; it may be used several times, also within itself."""

    def __init__(self, lead, history):
        self.lead = lead
        self.history = history
        self.mark = None

    def __enter__(self):
        self.mark = Mark(self.history.states, self.mark)
        return self.lead

    def __exit__(self, kind, value, trace):
        self.history.states = self.mark.states
        self.mark = self.mark.below
