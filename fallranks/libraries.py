"""Libraries: programs under names, with wishes that hold after each change."""

from fallranks.errors import Broken, InUse, InvalidIndex, InvalidName, UnknownName
from fallranks.histories import History, Mark
from fallranks.mends import check_wish, holds
from fallranks.programs import check_program
from fallranks.values import is_index, is_name


class Library:
    """Programs under names, and wishes, each for one of the names.

    Each state of its history is a pair: a dict of the programs, and the tuple
    of the wishes. Neither is ever changed: a change makes another one.
    """

    def __init__(self):
        self._history = History(({}, ()))

    def remove(self, name):
        """Takes the program with this name away."""
        self._check_name(name)
        for index, (other, _) in enumerate(self.wishes):
            if other == name:
                raise InUse(index)
        programs, wishes = self._history.present()
        self._history.change(({other: programs[other] for other in programs if other != name}, wishes))

    def wish(self, name, wish):
        """Makes a wish for the program with this name, behind the other wishes."""
        self._check_name(name)
        check_wish(wish)
        programs, wishes = self._history.present()
        if not holds(programs[name], wish):
            raise Broken(len(wishes))
        self._history.change((programs, (*wishes, (name, wish))))

    def lift(self, index):
        """Takes a wish away."""
        programs, wishes = self._history.present()
        if not is_index(index, len(wishes)):
            raise InvalidIndex(index)
        self._history.change((programs, wishes[:index] + wishes[index + 1:]))

    def undo(self):
        """Takes back the last change that was not taken back."""
        self._history.back()

    def trial(self):
        """For a `with` statement; behind an exception in it the library is as it was ahead of it."""
        return Attempt(self, self._history)

    def tried(self, action):
        """What the function returns for the library, which is as it was if there was an exception."""
        with self.trial() as library:
            return action(library)

    @property
    def names(self):
        """The names, ascending."""
        return tuple(sorted(list(self._history.present()[0])))

    @property
    def wishes(self):
        """The pairs of a name and a wish."""
        return self._history.present()[1]

    @property
    def changes(self):
        """How many changes can be taken back."""
        return self._history.many_changes()

    def _check_name(self, name):
        """Raises UnknownName for what is no name of the library."""
        if name not in self:
            raise UnknownName(name)

    def __setitem__(self, at, worth):
        if not is_name(at):
            raise InvalidName(at)
        check_program(worth)
        programs, wishes = self._history.present()
        for index, (name, wish) in enumerate(wishes):
            if name == at and not holds(worth, wish):
                raise Broken(index)
        self._history.change(({**programs, at: worth}, wishes))

    def __getitem__(self, at):
        self._check_name(at)
        return self._history.present()[0][at]

    def __contains__(self, x):
        return isinstance(x, str) and x in self._history.present()[0]

    def __iter__(self):
        raise TypeError("a library is not iterated over")

    def __len__(self):
        return len(self._history.present()[0])

    def __bool__(self):
        return True

    def __eq__(self, other):
        # Each library has a history of its own, so none is equal to another one.
        return isinstance(other, Library) and self._history == other._history


class Attempt:
    """What `with` takes for a trial of a library; it may be used several times, also within itself."""

    def __init__(self, library, history):
        self.library = library
        self.history = history
        self.mark = None

    def __enter__(self):
        self.mark = Mark(self.history.states, self.mark)
        return self.library

    def __exit__(self, kind, value, trace):
        if kind is not None:
            self.history.states = self.mark.states
        self.mark = self.mark.below
