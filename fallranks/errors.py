"""The errors of the package, each under the one base class to which it belongs.

The messages do not show the values, since these may be anything, also
something that cannot be shown.
"""


class WrongValue(ValueError):
    """A value that is not of the kind asked for."""


class InvalidText(WrongValue):
    """A value that is not the text of a program."""

    def __init__(self, given):
        super().__init__("this is not the text of a program")
        self.given = given


class InvalidName(WrongValue):
    """A value that is no name."""

    def __init__(self, given):
        super().__init__("this is no name")
        self.given = given


class InvalidIndex(WrongValue):
    """A value that is no index of what it was passed for."""

    def __init__(self, given):
        super().__init__("this is no index here")
        self.given = given


class InvalidPlace(WrongValue):
    """A value that is no place of the program."""

    def __init__(self, given):
        super().__init__("this is no place of the program")
        self.given = given


class InvalidPoint(WrongValue):
    """A value that is no point of the program."""

    def __init__(self, given):
        super().__init__("this is no point of the program")
        self.given = given


class InvalidForm(WrongValue):
    """A value that is no form, or none with as many integers as the tests."""

    def __init__(self, given):
        super().__init__("this is no form here")
        self.given = given


class InvalidRank(WrongValue):
    """A value that is no rank for the program."""

    def __init__(self, given):
        super().__init__("this is no rank for the program")
        self.given = given


class InvalidWish(WrongValue):
    """A value that is no wish."""

    def __init__(self, given):
        super().__init__("this is no wish")
        self.given = given


class NotProgram(WrongValue):
    """A value that is no program."""

    def __init__(self, given):
        super().__init__("this is no program")
        self.given = given


class InvalidNames(WrongValue):
    """Something that is no row of names of variables."""

    def __init__(self, index):
        super().__init__("these are no names of variables")
        self.index = index


class InvalidSayings(WrongValue):
    """Something that is no row of sayings."""

    def __init__(self, index):
        super().__init__("these are no sayings")
        self.index = index


class InvalidBranches(WrongValue):
    """Something that is no row of branches."""

    def __init__(self, index):
        super().__init__("these are no branches of a program")
        self.index = index


class InvalidForms(WrongValue):
    """Something that is no row of forms."""

    def __init__(self, index):
        super().__init__("these are no forms")
        self.index = index


class InvalidRanks(WrongValue):
    """Something that is no row of ranks for the program."""

    def __init__(self, index):
        super().__init__("these are no ranks for the program")
        self.index = index


class InvalidWalk(WrongValue):
    """Something that is no row of branches, one behind another."""

    def __init__(self, index):
        super().__init__("this is no walk through the program")
        self.index = index


class InvalidChanges(WrongValue):
    """Something that is no row of changes of the program."""

    def __init__(self, index):
        super().__init__("these are no changes of the program")
        self.index = index


class InvalidWishes(WrongValue):
    """Something that is no row of wishes."""

    def __init__(self, index):
        super().__init__("these are no wishes")
        self.index = index


class WrongName(LookupError):
    """A name under which there is nothing, or from which something hangs."""


class UnknownName(WrongName):
    """A value that is no name in the library."""

    def __init__(self, given):
        super().__init__("this is no name in the library")
        self.given = given


class InUse(WrongName):
    """A name for which there is a wish."""

    def __init__(self, index):
        super().__init__("there is a wish for this name")
        self.index = index


class NotPossible(ArithmeticError):
    """Something that cannot be done with right values."""


class Stuck(NotPossible):
    """A branch that cannot be taken."""

    def __init__(self, index):
        super().__init__("this branch cannot be taken")
        self.index = index


class NoRow(NotPossible):
    """A program without a row of ranks."""

    def __init__(self, given):
        super().__init__("the program has no row of ranks")
        self.given = given


class TooMany(NotPossible):
    """More states than are gone through."""

    def __init__(self, given):
        super().__init__("there are too many states")
        self.given = given


class NothingToUndo(NotPossible):
    """Nothing was done that could be taken back."""

    def __init__(self):
        super().__init__("there is nothing to undo")


class Broken(NotPossible):
    """A wish that would not hold any more."""

    def __init__(self, index):
        super().__init__("a wish would not hold")
        self.index = index
