"""Programs and values that several tests use."""

from fallranks.programs import Program

NEST_TEXT = """vars x y
say a 1 0 0
say a 0 1 0
branch a a
test 0 1 -1
then 1 0 0; 0 1 -1
branch a a
test 1 0 -1
then 1 0 -1; 1 1 0"""

NEST_PARTS = (
    ("x", "y"),
    (("a", (1, 0, 0)), ("a", (0, 1, 0))),
    (
        ("a", "a", ((0, 1, -1),), ((1, 0, 0), (0, 1, -1))),
        ("a", "a", ((1, 0, -1),), ((1, 0, -1), (1, 1, 0))),
    ),
)

DOWN_PARTS = (("x",), (), (("a", "a", ((1, -1),), ((1, -1),)),))
DOWN_TEXT = "vars x\nbranch a a\ntest 1 -1\nthen 1 -1"

UP_PARTS = (("x",), (("a", (1, 0)),), (("a", "a", (), ((1, 1),)),))
UP_TEXT = "vars x\nsay a 1 0\nbranch a a\nthen 1 1"

# Three variables, sayings, places, tests, and five branches: as much as a program can have.
FULL_PARTS = (
    ("abcdefgh", "x1", "z"),
    (
        ("p", (10 ** 6, -(10 ** 6), 0, 7)),
        ("q", (0, 0, 0, 0)),
        ("p", (0, 0, 0, -1)),
    ),
    (
        ("q", "r", ((1, 2, 3, 4), (5, 6, 7, 8), (9, 10, 11, 12)), ((1, 0, 0, 0), (0, 1, 0, 0), (0, 0, 1, 0))),
        ("r", "p", (), ((0, 0, 0, 0), (-1, -2, -3, -4), (0, 0, 0, 10 ** 6))),
        ("p", "p", ((0, 0, 1, -(10 ** 6)),), ((1, 1, 1, 1), (1, 1, 1, 1), (1, 1, 1, 1))),
        ("p", "q", ((0, 0, 1, 0), (0, 0, 1, 0)), ((1, 1, 1, 1), (1, 1, 1, 1), (1, 1, 1, 1))),
        ("p", "q", ((0, 0, 1, 0), (0, 0, 1, 0)), ((1, 1, 1, 1), (1, 1, 1, 1), (1, 1, 1, 1))),
    ),
)
FULL_TEXT = """vars abcdefgh x1 z
say p 1000000 -1000000 0 7
say q 0 0 0 0
say p 0 0 0 -1
branch q r
test 1 2 3 4
test 5 6 7 8
test 9 10 11 12
then 1 0 0 0; 0 1 0 0; 0 0 1 0
branch r p
then 0 0 0 0; -1 -2 -3 -4; 0 0 0 1000000
branch p p
test 0 0 1 -1000000
then 1 1 1 1; 1 1 1 1; 1 1 1 1
branch p q
test 0 0 1 0
test 0 0 1 0
then 1 1 1 1; 1 1 1 1; 1 1 1 1
branch p q
test 0 0 1 0
test 0 0 1 0
then 1 1 1 1; 1 1 1 1; 1 1 1 1"""

# The words of the text stand as names, too.
WORDS_PARTS = (
    ("vars", "say", "then"),
    (("branch", (1, 0, 0, 0)), ("say", (0, 0, 0, 0))),
    (
        ("test", "say", ((0, 0, 0, 0),), ((1, 0, 0, 0), (0, 1, 0, 0), (0, 0, 1, 0))),
        ("branch", "branch", (), ((0, 0, 0, 0), (0, 0, 0, 0), (0, 0, 0, 0))),
    ),
)
WORDS_TEXT = """vars vars say then
say branch 1 0 0 0
say say 0 0 0 0
branch test say
test 0 0 0 0
then 1 0 0 0; 0 1 0 0; 0 0 1 0
branch branch branch
then 0 0 0 0; 0 0 0 0; 0 0 0 0"""

SAMPLES = (
    (NEST_PARTS, NEST_TEXT),
    (DOWN_PARTS, DOWN_TEXT),
    (UP_PARTS, UP_TEXT),
    (FULL_PARTS, FULL_TEXT),
    (WORDS_PARTS, WORDS_TEXT),
)


NEST = Program(*NEST_PARTS)
DOWN = Program(*DOWN_PARTS)
UP = Program(*UP_PARTS)
FULL = Program(*FULL_PARTS)
STOP = Program(("x",), (("a", (1, 0)),), (("a", "a", ((-1, -1),), ((1, 1),)),))
TWO = Program(("x",), (("b", (1, 0)),), (("a", "b", ((1, -1),), ((1, -1),)), ("b", "a", (), ((1, 0),))))


class Odd:
    """A value of a class that no call knows, and that answers nothing at all."""

    def __eq__(self, other):
        raise AssertionError("a value was compared before its kind was looked at")

    __hash__ = None

    def __bool__(self):
        raise AssertionError("the truth of a value was asked")

    def __len__(self):
        raise AssertionError("the length of a value was asked")

    def __iter__(self):
        raise AssertionError("a value was iterated over")

    def __repr__(self):
        raise AssertionError("a value was shown")

    __str__ = __repr__


def odd_values():
    """Values of many kinds, none of which is a tuple, a string or an integer."""
    return [None, True, False, [], [1], {}, {"a": 1}, set(), frozenset([1]), b"", b"a", 1j, object(), Odd(), len, int,
            range(3), Program(*DOWN_PARTS), ValueError("x")]


def twin(value):
    """An equal value with other tuples and strings in it."""
    if isinstance(value, tuple):
        return tuple([twin(part) for part in value])
    if isinstance(value, str):
        return "".join(list(value))
    return value
