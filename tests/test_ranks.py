import itertools
import random
import unittest

from fallranks.errors import InvalidRank, InvalidRanks, NoRow
from fallranks.levels import dead, left, levels
from fallranks.programs import Program
from fallranks.ranks import fall, judge, ranks
from tests.ladders import AT_LEAST_0, HANDS, LADDERS, random_program
from tests.refusing import Refusing, wrong_values
from tests.samples import DOWN, NEST, STOP, TWO, UP, Odd, twin


def value(rank, program, place, point):
    """The value of a rank in a state, as a pair that is to be divided."""
    form = rank[1][program.places.index(place)]
    return sum(one * other for one, other in zip(form, (*point, 1)))


class Rows(unittest.TestCase):

    def test_examples(self):
        self.assertEqual(judge(NEST, ranks(NEST)), ())
        with self.assertRaises(NoRow) as caught:
            ranks(UP)
        self.assertEqual(caught.exception.given, (0,))
        self.assertEqual(ranks(program=STOP), ())

    def is_row(self, program, steps, without_points=()):
        """Each rank is held against point [10], branch by branch."""
        row = ranks(program)
        self.assertIs(type(row), tuple)
        self.assertEqual(len(row), len(steps))
        self.assertEqual(judge(program, row), ())
        for at, (rank, step) in enumerate(zip(row, steps)):
            self.assertEqual([type(rank), type(rank[0]), type(rank[1])], [tuple, int, tuple])
            self.assertEqual([len(form) for form in rank[1]], [len(program.names) + 1 for _ in program.places])
            self.assertGreaterEqual(rank[0], 1)
            self.assertEqual({type(number) for form in rank[1] for number in form}, {int})
            for index in step:
                amount = fall(program, index, rank)
                self.assertGreaterEqual(amount[0], amount[1])
            for step_behind in steps[at:]:
                for index in step_behind:
                    self.assertGreaterEqual(fall(program, index, rank)[0], 0)
            self.assertEqual(judge(program, row[:at]), tuple(sorted(sum(steps[at:], ()))))
            self.assertNotIn(judge(program, row[:at] + row[at + 1:]), [()])
        for index in without_points:
            self.assertEqual([fall(program, index, rank) for rank in row], [None for _ in row])
        self.falls_at_points(program, row, steps)

    def falls_at_points(self, program, row, steps):
        """The ranks fall at single points, by their values alone."""
        source = random.Random(9)
        for at, step in enumerate(steps):
            for index in (index for step_behind in steps[at:] for index in step_behind):
                start, target, _, changes = program.branches[index]
                for _ in range(30):
                    point = tuple(source.choice((source.randint(-2, 9), source.randint(0, 10 ** 40)))
                                  for _ in program.names)
                    if any(sum(a * b for a, b in zip(test, (*point, 1))) < 0 for test in program.all_tests(index)):
                        continue
                    behind = tuple(sum(a * b for a, b in zip(change, (*point, 1))) for change in changes)
                    before = value(row[at], program, start, point)
                    self.assertGreaterEqual(before, 0)
                    less = before - value(row[at], program, target, behind)
                    self.assertGreaterEqual(less, row[at][0] if index in step else 0)

    def no_row(self, program, rest):
        for call in (lambda: ranks(program), lambda: ranks(program=program)):
            with self.subTest(program=program.text), self.assertRaises(NoRow) as caught:
                call()
            self.assertEqual(caught.exception.given, rest)

    def test_ladders(self):
        for program, without_points, steps, rest in LADDERS:
            with self.subTest(program=program.text):
                if rest:
                    self.no_row(program, rest)
                else:
                    self.is_row(program, steps, without_points)

    def test_random_ones(self):
        source = random.Random(4)
        found = 0
        for _ in range(150):
            program = random_program(source)
            steps = levels(program)
            with self.subTest(program=program.text):
                if len(sum(steps, ())) + len(dead(program)) == len(program):
                    self.is_row(program, steps, dead(program))
                    found += 1
        self.assertGreater(found, 40)

    def test_large_numbers(self):
        most = 10 ** 6
        source = random.Random(8)
        for _ in range(6):
            positive = tuple(tuple(source.randint(1, most) for _ in range(4)) for _ in range(3))
            branches = tuple((here, there, (tuple(source.randint(1, most) for _ in range(4)),),
                              tuple((*[int(at == k) for at in range(3)], -source.randint(1, most)) for k in range(3)))
                             for here, there in ("aa", "bb", "cc", "ab", "bc"))
            program = Program(("x", "y", "z"), tuple(zip("abc", positive)), branches)
            self.assertEqual(left(program), ())
            self.is_row(program, levels(program))

    def test_the_same_again(self):
        for program, _, _, rest in LADDERS:
            if not rest:
                again = Program(*twin((program.names, program.sayings, program.branches)))
                self.assertEqual(ranks(program), ranks(program))
                self.assertEqual(ranks(again), ranks(program))

    def test_no_row_ahead_of_nothing(self):
        self.no_row(Program(("x",), (), (*DOWN.branches, ("b", "b", (), ((1, 0),)), ("c", "c", (), ((1, 0),)))), (1, 2))


class Judged(unittest.TestCase):

    def test_examples(self):
        self.assertEqual([judge(NEST, ((1, ((1, 0, 0),)), (1, ((0, 1, 0),)))), judge(NEST, ((1, ((1, 1, 0),)),))],
                         [(), (1,)])

    def test_by_name(self):
        self.assertEqual(judge(row=(), program=NEST), (0, 1))

    def test_too_short_in_another_order_doubled(self):
        x, y = (1, ((1, 0, 0),)), (1, ((0, 1, 0),))
        self.assertEqual([judge(NEST, row) for row in ((), (x,), (y,), (x, y), (y, x))],
                         [(0, 1), (0,), (1,), (), (1,)])
        self.assertEqual([judge(NEST, row) for row in ((x, x), (x, x, y), (x, y, y), (y, y), (x, y, x), (y, x, y))],
                         [(0,), (), (), (1,), (), (1,)])

    def test_all_orders_of_the_hands(self):
        program = Program(("x", "y", "z"), AT_LEAST_0, HANDS)
        rows = [(1, (tuple(int(at == k) for at in range(4)),)) for k in range(3)]
        for order in itertools.permutations(range(3)):
            row = tuple(rows[k] for k in order)
            # Branch 2 makes x less and the others greater, branch 1 y, branch 0 z.
            right = {0: order.index(2) >= 0, 1: order.index(1) < order.index(2), 2: order[0] == 0}
            self.assertEqual(judge(program, row), tuple(index for index in range(3) if not right[index]))

    def test_a_wrong_number(self):
        x = (1, ((1, 0, 0),))
        self.assertEqual(judge(NEST, (x, (2, ((0, 1, 0),)))), (0,))
        self.assertEqual(judge(NEST, (x, (2, ((0, 2, 0),)))), ())
        self.assertEqual(judge(NEST, ((2, ((1, 0, 0),)), (1, ((0, 1, 0),)))), (1,))
        self.assertEqual(judge(NEST, ((10 ** 27 + 1, ((10 ** 27, 0, 0),)), (1, ((0, 1, 0),)))), (1,))
        self.assertEqual(judge(NEST, ((10 ** 27, ((10 ** 27, 0, 0),)), (1, ((0, 1, 0),)))), ())

    def test_what_does_not_stand(self):
        self.assertEqual([judge(DOWN, ((1, ((1, number),)),)) for number in (-2, -1, 0, 1, 10 ** 40)],
                         [(0,), (), (), (), ()])
        # All ranks up to that one must stand; those behind it need not.
        low, right = (1, ((0, -1),)), (1, ((1, -1),))
        self.assertEqual([judge(DOWN, (low, right)), judge(DOWN, (right, low)), judge(DOWN, (low,))], [(0,), (), (0,)])
        self.assertEqual(judge(DOWN, ((1, ((0, 0),)), right)), ())

    def test_what_rises(self):
        grows, right = (1, ((-1, 100),)), (1, ((1, -1),))
        some = Program(("x",), (), (("a", "a", ((1, -1), (-1, 100)), ((1, -1),)),))
        self.assertEqual([judge(some, row) for row in ((right,), (grows,), (grows, right), (right, grows))],
                         [(), (0,), (0,), ()])
        self.assertEqual(judge(some, ((1, ((0, 5),)), right)), ())

    def test_falls_only_at_integers(self):
        # At fractions the first rank falls by less than 1: x is at least 1/2.
        half = Program(("x",), (), (("a", "a", ((2, -1),), ((0, 0),)),))
        self.assertEqual([judge(half, ((1, ((1, 0),)),)), judge(half, ((1, ((2, 0),)),))], [(0,), ()])

    def test_the_places(self):
        around = Program(("x",), (("a", (1, 0)), ("b", (1, 0))),
                         (("a", "b", (), ((1, 3),)), ("b", "a", ((1, -4),), ((1, -4),))))
        for d, low, high, told in ((2, 14, 0, ()), (2, 13, 0, (0,)), (2, 15, 0, (1,)), (2, 0, 0, (0,)),
                                   (2, 0, 14, (0,)), (3, 14, 0, (0, 1)), (2, 10 ** 27 + 14, 10 ** 27, ()),
                                   (2, 10 ** 27, 0, (1,))):
            self.assertEqual(judge(around, ((d, ((4, low), (4, high))),)), told)

    def test_dead_branches(self):
        bad = (1, ((0, -9),))
        self.assertEqual([judge(STOP, ()), judge(STOP, (bad,)), judge(STOP, (bad, bad))], [(), (), ()])
        some = Program(("x",), (), (("a", "a", ((0, -1),), ((1, 1),)), *DOWN.branches))
        self.assertEqual([judge(some, ()), judge(some, ((1, ((1, 0),)),)), judge(some, (bad,))], [(1,), (), (1,)])

    def test_no_ranks(self):
        for program, without_points, steps, rest in LADDERS:
            told = tuple(index for index in range(len(program)) if index not in without_points)
            self.assertEqual(judge(program, ()), told)
            zero = (1, tuple((0,) * (len(program.names) + 1) for _ in program.places))
            self.assertEqual(judge(program, (zero,) * 7), told)

    def test_the_same_again(self):
        row = ((1, ((1, 0, 0),)), (1, ((0, 1, 0),)))
        self.assertEqual([judge(NEST, row), judge(NEST, twin(row)), judge(NEST, row[1:]), judge(NEST, row[1:])],
                         [(), (), (1,), (1,)])


class Fall(unittest.TestCase):

    def test_examples(self):
        self.assertEqual([fall(NEST, 1, (1, ((0, 1, 0),))), fall(NEST, 0, (2, ((5, 3, 1),)))], ["endless", (3, 2)])

    def test_by_name(self):
        self.assertEqual(fall(rank=(2, ((5, 3, 1),)), program=NEST, index=0), (3, 2))

    def test_numbers(self):
        self.assertEqual([fall(DOWN, 0, (d, ((number, 7),))) for d, number in
                          ((1, 1), (1, 3), (2, 3), (4, 6), (1, 0), (9, 0), (1, -1), (2, -6), (6, -4))],
                         [(1, 1), (3, 1), (3, 2), (3, 2), (0, 1), (0, 1), (-1, 1), (-3, 1), (-2, 3)])

    def test_the_least_amount_over_the_points(self):
        halved = Program(("x",), (), (("a", "a", ((3, -2), (-1, 5)), ((0, 1),)),))
        self.assertEqual([fall(halved, 0, (1, ((1, 9),))), fall(halved, 0, (1, ((-1, 9),))),
                          fall(halved, 0, (4, ((6, 0),)))],
                         [(-1, 3), (-4, 1), (-1, 2)])

    def test_long_numbers(self):
        long = 10 ** 26 + 7
        self.assertEqual(fall(DOWN, 0, (3, ((long, -long),))), (long, 3))
        self.assertEqual(fall(DOWN, 0, (long, ((long - 1, long),))), (long - 1, long))
        self.assertEqual(fall(DOWN, 0, (2 * long, ((-6 * long, long),))), (-3, 1))
        self.assertEqual(fall(NEST, 0, (long, ((0, 5, 1),))), (5, long))
        self.assertEqual(fall(NEST, 1, (long, ((10 ** 40, 0, 1),))), (10 ** 40, long))

    def test_endless(self):
        self.assertEqual(fall(NEST, 1, (1, ((0, -1, 0),))), (1, 1))
        self.assertEqual(fall(NEST, 1, (7, ((10 ** 40, 1, 0),))), "endless")
        self.assertEqual(fall(UP, 0, (1, ((1, 0),))), (-1, 1))
        free = Program(("x", "y"), (), (("a", "a", (), ((1, 0, -1), (0, 2, 0))),))
        self.assertEqual([fall(free, 0, (1, ((3, 0, 0),))), fall(free, 0, (1, ((3, 1, 0),)))], [(3, 1), "endless"])

    def test_dead_branches(self):
        self.assertIsNone(fall(STOP, 0, (1, ((1, 0),))))
        self.assertIsNone(fall(STOP, 0, (10 ** 40, ((-10 ** 40, 0),))))

    def test_the_sayings_at_the_source_count(self):
        branch = ("a", "b", ((1, -1),), ((0, 0),))
        told = [fall(Program(("x",), tuple(sayings), (branch,)), 0, (1, forms)) for sayings, forms in (
            ((), ((1, 0), (1, 0))), ((("a", (1, -6)),), ((1, 0), (1, 0))), ((("b", (1, -6)),), ((1, 0), (1, 0))))]
        self.assertEqual(told, [(1, 1), (6, 1), (1, 1)])

    def test_the_forms_of_the_places(self):
        apart = Program(("x",), (("b", (1, 0)),), (("a", "b", ((1, -1),), ((2, 3),)), ("c", "a", ((1, 0),), ((1, 1),))))
        rank = (1, ((1, 50), (2, 400), (3, 6000)))
        self.assertEqual(apart.places, ("b", "a", "c"))
        self.assertEqual([fall(apart, 0, rank), fall(apart, 1, rank)], [(400 - 53, 1), (6000 - 402, 1)])

    def test_the_same_again(self):
        rank = (2, ((5, 3, 1),))
        self.assertEqual([fall(NEST, 0, rank), fall(NEST, 0, twin(rank)), rank], [(3, 2), (3, 2), (2, ((5, 3, 1),))])


class Wrong(Refusing):

    def test_each_argument_and_their_order(self):
        rank = (1, ((1, 0, 0),))
        self.refuses_all(ranks, ("program",), (NEST,))
        self.refuses_all(judge, ("program", "row"), (NEST, (rank,)))
        self.refuses_all(fall, ("program", "index", "rank"), (NEST, 0, rank))

    def no_ranks(self, told, row, program=NEST):
        self.refused(judge, ("program", "row"), (program, row), InvalidRanks, told)

    def test_the_first_of_a_row_that_is_no_rank(self):
        rank = (1, ((1, 0, 0),))
        for wrong in wrong_values("rank"):
            self.no_ranks(0, (wrong,))
            self.no_ranks(0, (wrong, rank, wrong))
            self.no_ranks(2, (rank, rank, wrong, Odd()))
            self.no_ranks(40, (rank,) * 40 + (wrong,))

    def test_what_is_no_rank_for_this_program(self):
        two_places = (1, ((1, 0), (1, 0)))
        self.assertEqual(judge(TWO, (two_places,)), (1,))
        self.no_ranks(1, (two_places, (1, ((1, 0),))), TWO)
        self.no_ranks(0, ((1, ((1, 0), (1, 0), (1, 0))),), TWO)
        self.no_ranks(0, ((1, ((1, 0), (1, 0, 0))),), TWO)
        self.no_ranks(0, ((1, ((1, 0), [1, 0])),), TWO)
        self.no_ranks(0, (two_places,), DOWN)
        for rank in ((1, ((1, 0),)), (1, ((1, 0), (1, True))), (0, ((1, 0), (1, 0))), (True, ((1, 0), (1, 0)))):
            self.refused(fall, ("program", "index", "rank"), (TWO, 1, rank), InvalidRank, rank)

    def test_many_ranks(self):
        self.assertEqual(judge(DOWN, ((1, ((0, 0),)),) * 200 + ((1, ((1, 0),)),)), ())
