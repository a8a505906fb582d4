"""What the tests of wrong arguments have in common: which errors calls raise, and in which order."""

import inspect
import unittest

from fallranks.errors import (InvalidChanges, InvalidForm, InvalidForms, InvalidIndex, InvalidPlace, InvalidPoint,
                              InvalidRank, InvalidRanks, InvalidWalk, InvalidWish, InvalidWishes, NotProgram)
from fallranks.programs import Program
from tests.samples import DOWN_PARTS, NEST_PARTS, NEST_TEXT, odd_values

# The errors with `given` of the parameters that have the same error everywhere.
ERRORS = {"program": NotProgram, "index": InvalidIndex, "place": InvalidPlace, "point": InvalidPoint,
          "rank": InvalidRank, "form": InvalidForm, "wish": InvalidWish}
# The errors with `index`, which is None for these values.
ROW_ERRORS = {"walk": InvalidWalk, "row": InvalidRanks, "tests": InvalidForms, "wishes": InvalidWishes,
              "changes": InvalidChanges}
# What is no wish, of each form: with parts left out or put in, of other kinds, and with numbers below 0.
NO_WISHES = [
    "row", ("ROW",), ("row ",), ("row", 1), ("row", ()), ("kept", 0), ("kept", "a"), (b"row",), (("row",),), ["row"], ("",),
    ("ranks",), ("ranks", -1), ("ranks", True), ("ranks", False), ("ranks", None), ("ranks", "1"), ("ranks", (1,)),
    ("ranks", 1, 1), ("ranks", 1, ()), ["ranks", 1], ("ranks", [1]), ("ranks", 1j), ("ranks", -10 ** 40),
    ("within",), ("within", "a"), ("within", "a", (1, 2)), ("within", "a", (1, 2), 3, 4), ("within", "a", 3),
    ("within", "A", (1, 2), 3), ("within", "", (1, 2), 3), ("within", "abcdefghi", (1, 2), 3), ("within", "a b", (1,), 3),
    ("within", b"a", (1, 2), 3), ("within", None, (1, 2), 3), ("within", 1, (1, 2), 3), ("within", ("a",), (1, 2), 3),
    ("within", "a", [1, 2], 3), ("within", "a", (1, True), 3), ("within", "a", (None, 2), 3), ("within", "a", ("1",), 3),
    ("within", "a", ((1,), 2), 3), ("within", "a", 1, 3), ("within", "a", "12", 3), ("within", "a", None, 3),
    ("within", "a", (1, 2), True), ("within", "a", (1, 2), None), ("within", "a", (1, 2), "3"),
    ("within", "a", (1, 2), (3,)), ["within", "a", (1, 2), 3], ("within", (1, 2), "a", 3), ("bound", "a", (1, 2), 3),
]


def wrong_values(name):
    """Values that are wrong for a parameter of this name, for a program of two variables and two branches at `a`."""
    odd = [value for value in odd_values() if name != "program" or not isinstance(value, Program)]
    some = odd + ["", "b", "aa", "A", " a", (), ("a",), (1,), ((),), [1, 0], -1, 2, 3, 10 ** 40, -10 ** 40, [(1, 0, 0)]]
    if name == "program":
        return some + ["a", 0, 1, NEST_TEXT, NEST_PARTS, DOWN_PARTS, Program]
    if name == "wish":
        return some + NO_WISHES + [(value,) for value in odd_values()] + [("ranks", value) for value in odd_values()]
    if name in ROW_ERRORS:
        return [value for value in some if not isinstance(value, tuple)] + ["a", 0, 1, Program(*NEST_PARTS)]
    if name == "index":
        return some + ["a", "0", (0,)]
    if name == "place":
        return some + [0, 1, b"a", ["a"], "x"]
    if name == "point":
        return some + [0, 1, "ab", (1, 2, 3), [1, 2], (1, True), (False, 0), (1, None), ("1", 2), ((1,), 2), (1, 1j)]
    if name == "rank":
        form = (1, 0, 0)
        return some + [0, 1, "ab", (1,), (1, form), (1, (form,), 1), [1, (form,)], (0, (form,)), (-1, (form,)),
                       (True, (form,)), (None, (form,)), ("1", (form,)), ((1,), (form,)), (1, [form]), (1, ()),
                       (1, (form, form)), (1, ((1, 0),)), (1, ((1, 0, 0, 0),)), (1, ([1, 0, 0],)), (1, ((1, True, 0),)),
                       (1, ((1, 0, None),)), (1, ("abc",)), (1, form), (1, ((1, (0,), 0),)), ((form,), 1)]
    return some + [0, 1, "abc", (1, 2), (1, 2, 3, 4), [1, 2, 3], (1, True, 0), (1, 2, None), ("1", 2, 3), (1, 2, (3,))]


class Refusing(unittest.TestCase):
    """Calls with wrong arguments, by position and by name."""

    def calls(self, function, names, given):
        yield lambda: function(*given)
        yield lambda: function(**dict(zip(names, given)))
        yield lambda: function(given[0], **dict(reversed(list(zip(names[1:], given[1:])))))

    def refused(self, function, names, given, error, told):
        """Each way to call this raises this error with this attribute: the very value, or an equal index."""
        for call in self.calls(function, names, given):
            with self.subTest(function=function, error=error), self.assertRaises(error) as caught:
                call()
            self.assertIs(type(caught.exception), error)
            if "given" in vars(caught.exception):
                self.assertIs(caught.exception.given, told)
            else:
                self.assertEqual(caught.exception.index, told)
                self.assertEqual(type(caught.exception.index), type(told))

    def refuses_all(self, function, names, right):
        """The signature, and the first wrong argument of each, whatever those behind it are."""
        self.assertEqual(list(inspect.signature(function).parameters), list(names))
        for at, name in enumerate(names):
            error = ERRORS.get(name) or ROW_ERRORS[name]
            for wrong in wrong_values(name):
                told = None if name in ROW_ERRORS else wrong
                self.refused(function, names, (*right[:at], wrong, *right[at + 1:]), error, told)
                for other in wrong_values(name)[::5]:
                    behind = [other for _ in names[at + 1:]]
                    self.refused(function, names, (*right[:at], wrong, *behind), error, told)
