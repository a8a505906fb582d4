"""Programs with their dead branches, levels, and what is left; and random programs."""

import itertools

from fallranks.programs import Program
from tests.samples import DOWN, FULL, NEST, STOP, TWO, UP

MOST = 10 ** 6
AT_LEAST_0 = tuple(("a", tuple([int(at == k) for at in range(3)] + [0])) for k in range(3))
# z falls; or y falls, and z becomes whatever x and y make it; or x falls, and the others grow.
HANDS = (
    ("a", "a", ((0, 0, 1, -1),), ((1, 0, 0, 0), (0, 1, 0, 0), (0, 0, 1, -1))),
    ("a", "a", ((0, 1, 0, -1),), ((1, 0, 0, 0), (0, 1, 0, -1), (2, 3, 1, 5))),
    ("a", "a", ((1, 0, 0, -1),), ((1, 0, 0, -1), (0, 1, 7, 2), (MOST, MOST, 0, MOST))),
)


def x_program(branches, sayings=()):
    """A program of the variable x alone."""
    return Program(("x",), tuple(sayings), tuple(branches))


def turned_hands():
    """The hands in each order, with their levels."""
    for order in itertools.permutations(range(3)):
        program = Program(("x", "y", "z"), AT_LEAST_0, tuple(HANDS[at] for at in order))
        yield program, (), tuple((order.index(at),) for at in (2, 1, 0)), ()


def turned_nests():
    """The nest of two variables, in both orders and with a branch that only stays."""
    for order in itertools.permutations(range(3)):
        stays = ("a", "a", (), ((1, 0, 0), (0, 1, 0)))
        some = (*NEST.branches, stays)
        program = Program(NEST.names, NEST.sayings, tuple(some[at] for at in order))
        yield program, (), tuple((order.index(at),) for at in (1, 0)), (order.index(2),)


LADDERS = (
    (NEST, (), ((1,), (0,)), ()),
    (DOWN, (), ((0,),), ()),
    (UP, (), (), (0,)),
    (STOP, (0,), (), ()),
    (TWO, (), ((0, 1),), ()),
    (FULL, (2, 3, 4), ((0, 1),), ()),
    # Without the sayings y can be below 0, and so nothing falls in the one branch while x is at least 1.
    (Program(NEST.names, (), NEST.branches), (), (), (0, 1)),
    # Dead by its tests, by the sayings at its source, and by both.
    (x_program([("a", "a", ((1, -1), (-1, 0)), ((1, 1),))]), (0,), (), ()),
    (x_program([("a", "a", (), ((1, 1),))], [("a", (1, -1)), ("a", (-1, 0))]), (0,), (), ()),
    (x_program([("a", "a", (), ((1, 1),))], [("a", (0, -1))]), (0,), (), ()),
    (x_program([("a", "b", (), ((1, 1),)), ("b", "b", ((-1, -1),), ((1, 1),)), ("b", "a", ((-1, 5),), ((1, 0),))],
               [("b", (1, 0))]), (1,), (), (0, 2)),
    # Sayings at the target alone do not make a branch dead, nor close it.
    (x_program([("a", "b", (), ((1, 0),))], [("b", (0, -1))]), (), ((0,),), ()),
    # One branch can be taken at a point that is no integer, the other one at no point.
    (x_program([("a", "a", ((2, -1), (-2, 1)), ((1, 0),)), ("a", "a", ((2, -2), (-2, 1)), ((1, 0),))]), (1,), (), (0,)),
    # One level of several branches.
    (x_program([("a", "a", ((1, -step),), ((1, -step),)) for step in (1, 2, 3, 4, 5)]), (), ((0, 1, 2, 3, 4),), ()),
    (x_program([("a", "a", ((1, -1),), ((1, -1),)), ("a", "a", ((-1, 9),), ((1, 1),))]), (), (), (0, 1)),
    (x_program([("a", "a", ((1, -1), (-1, 9)), ((1, 1),))]), (), ((0,),), ()),
    (x_program([("a", "a", ((1, -MOST),), ((1, -1),)), ("a", "a", ((1, 0),), ((1, -MOST),))]), (), ((0, 1),), ()),
    (x_program([("a", "a", ((MOST, 1 - MOST),), ((1, -1),))]), (), ((0,),), ()),
    # x becomes at most its half, and is at least 2.
    (Program(("x", "y"), (), (("a", "a", ((2, -4, 0), (1, -2, 0), (0, 1, -1)), ((0, 1, 0), (0, 1, 0))),)),
     (), ((0,),), ()),
    # Each run comes to an end, since y falls and then x does; but no row of ranks tells it.
    (Program(("x", "y"), (("a", (1, 0, 0)),), (("a", "a", ((1, 0, -1),), ((1, 1, 0), (0, 1, -1))),)), (), (), (0,)),
    # Several places: one branch around, and branches that are taken once.
    (x_program([("a", "b", (), ((1, 0),)), ("b", "c", (), ((1, 5),)), ("a", "c", (), ((-1, 0),))]),
     (), ((0, 1, 2),), ()),
    (x_program([("a", "b", (), ((1, 0),)), ("b", "c", (), ((1, 0),)), ("c", "a", (), ((1, 0),)),
                ("a", "a", ((1, -1),), ((1, -1),))], [("c", (1, 0)), ("b", (1, 0)), ("a", (1, 0))]),
     (), ((3,),), (0, 1, 2)),
    (x_program([("a", "b", (), ((1, 1),)), ("b", "a", ((1, -3),), ((1, -2),)), ("b", "b", ((1, 0),), ((1, -1),))],
               [("a", (1, -1)), ("b", (1, 0))]), (), ((0, 1, 2),), ()),
    (x_program([("a", "b", (), ((1, 3),)), ("b", "b", ((1, -1),), ((1, -1),))], [("a", (1, 9))]), (), ((0, 1),), ()),
    # At a nothing holds x up, so no rank falls on both.
    (x_program([("a", "b", (), ((1, 3),)), ("b", "b", ((1, -1),), ((1, -1),))]), (), ((0,), (1,)), ()),
    (x_program([("a", "b", (), ((MOST, MOST),)), ("b", "b", ((1, -1),), ((1, -1),)), ("b", "a", (), ((0, 0),))]),
     (), (), (0, 1, 2)),
    # Two rounds apart, of which one never ends.
    (Program(("x", "y"), (), (("a", "a", ((1, 0, 0),), ((1, 0, -1), (0, 1, 0))),
                              ("b", "b", ((0, 1, 0),), ((1, 0, 0), (0, 1, 1))))), (), ((0,),), (1,)),
    *list(turned_hands()),
    *list(turned_nests()),
)


def random_program(source):
    """A program of small and of large numbers, some of whose variables and tests are plain."""
    names = ("x", "y", "z")[:source.randint(1, 3)]
    most = source.choice((1, 1, 2, 10 ** 6))

    def form(plain, last):
        numbers = [source.choice((0, source.randint(-most, most))) for _ in names]
        if source.random() < plain:
            numbers = [0] * len(names)
            numbers[source.randrange(len(names))] = source.choice((1, 1, 1, -1))
        return (*numbers, source.choice(last))

    def changes():
        told = []
        for at in range(len(names)):
            kept = tuple(int(other == at) for other in range(len(names)))
            told.append((*kept, source.choice((0, -1, -1, 1))) if source.random() < 0.8 else form(0, (-1, 0, most)))
        return tuple(told)

    places = source.choice(("a", "ab", "abc"))
    sayings = [(source.choice(places), form(0.8, (0, 0, -1, 5))) for _ in range(source.randint(0, 3))]
    branches = [(source.choice(places), source.choice(places),
                 tuple(form(0.7, (0, -1, 9)) for _ in range(source.randint(0, 3))), changes())
                for _ in range(source.randint(1, 5))]
    used = {place for place, _ in sayings} | {place for branch in branches for place in branch[:2]}
    return Program(names, tuple(sayings), tuple(branches)) if len(used) <= 3 else random_program(source)
