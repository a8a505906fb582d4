import itertools
import unittest

from fallranks.errors import InvalidWalk, Stuck
from fallranks.programs import Program
from fallranks.walking import can_take, take, walk
from tests.refusing import Refusing
from tests.samples import DOWN, FULL, NEST, TWO, Odd, odd_values, twin

BIG = 10 ** 40
# a leads to b by exchanging, b to a or c, c to itself; sayings that hold nowhere do not matter.
ROADS = Program(("x", "y"), (("a", (0, 0, -1)), ("c", (-1, 0, -5))), (
    ("a", "b", ((1, 1, -4), (1, -1, 0)), ((0, 1, 0), (1, 0, 0))),
    ("b", "a", ((0, 1, -7),), ((1, 1, 1), (1, -1, 2))),
    ("b", "c", (), ((3, 0, 0), (0, 0, -2))),
    ("c", "c", ((1, 0, -1), (-1, 0, 9), (0, 1, 3)), ((1, 0, -1), (0, 1, 0))),
))


class CanTake(unittest.TestCase):

    def test_examples(self):
        self.assertEqual([can_take(NEST, 0, "a", (3, 0)), can_take(NEST, 1, "a", (3, 0))], [False, True])

    def test_each_branch_at_each_place(self):
        points = {0: (3, 1), 1: (0, 7), 2: (0, 0), 3: (1, -3)}
        for index, place in itertools.product(range(4), "abc"):
            is_source = place == ROADS.branches[index][0]
            self.assertIs(can_take(ROADS, index, place, points[index]), is_source)
            self.assertIs(can_take(place=place, point=points[index], index=index, program=ROADS), is_source)

    def test_all_tests_just_at_0_and_just_below(self):
        for point, right in (((2, 2), True), ((3, 1), True), ((2, 1), False), ((1, 3), False), ((4, 0), True),
                             ((3, 4), False), ((BIG, BIG), True), ((BIG, BIG + 1), False), ((-BIG, BIG + 4), False)):
            self.assertIs(can_take(ROADS, 0, "a", point), right)
        for point, right in (((1, -3), True), ((0, -3), False), ((9, -3), True), ((10, -3), False), ((1, -4), False),
                             ((9, BIG), True), ((BIG, 0), False), ((5, -BIG), False)):
            self.assertIs(can_take(ROADS, 3, "c", point), right)

    def test_no_tests(self):
        for point in ((0, 0), (BIG, -BIG), (-1, -1)):
            self.assertIs(can_take(ROADS, 2, "b", point), True)
            self.assertIs(can_take(ROADS, 2, "c", point), False)

    def test_sayings_are_not_looked_at(self):
        self.assertIs(can_take(NEST, 0, "a", (-5, 1)), True)
        self.assertIs(can_take(NEST, 1, "a", (1, -5)), True)
        self.assertIs(can_take(TWO, 1, "b", (-1,)), True)

    def test_equal_programs_and_points(self):
        again = Program(*twin((ROADS.names, ROADS.sayings, ROADS.branches)))
        for index, place, point in itertools.product(range(4), "abc", ((2, 2), (1, 7))):
            told = can_take(ROADS, index, place, point)
            self.assertIs(can_take(again, index, twin(place), twin(point)), told)
            self.assertIs(can_take(ROADS, index, place, point), told)


class Take(unittest.TestCase):

    def test_examples(self):
        self.assertEqual(take(NEST, 1, (3, 0)), (2, 3))

    def test_each_branch(self):
        self.assertEqual(take(ROADS, 0, (3, 1)), (1, 3))
        self.assertEqual(take(ROADS, 1, (5, 7)), (13, 0))
        self.assertEqual(take(ROADS, 2, (5, 7)), (15, -2))
        self.assertEqual(take(point=(1, -3), index=3, program=ROADS), (0, -3))

    def test_all_variables_change_at_once(self):
        self.assertEqual(take(ROADS, 0, (BIG, 4)), (4, BIG))
        turned = Program(("x", "y", "z"), (), (("a", "a", (), ((0, 1, 0, 0), (0, 0, 1, 0), (1, 0, 0, 0))),))
        self.assertEqual(take(turned, 0, (1, 2, 3)), (2, 3, 1))

    def test_large_numbers(self):
        self.assertEqual(take(FULL, 1, (BIG, -BIG, 1)), (0, BIG - 7, 10 ** 6))
        self.assertEqual(take(NEST, 1, (BIG, BIG)), (BIG - 1, 2 * BIG))
        self.assertEqual(take(Program(("x",), (), (("a", "a", (), ((-10 ** 6, 1),)),)), 0, (-BIG,)), (10 ** 46 + 1,))

    def test_sayings_are_not_looked_at(self):
        self.assertEqual(take(ROADS, 0, (2, 2)), (2, 2))
        self.assertEqual(take(NEST, 0, (-5, 1)), (-5, 0))

    def stuck(self, told, *given):
        with self.assertRaises(Stuck) as caught:
            take(*given)
        self.assertEqual(caught.exception.index, told)

    def test_stuck_with_the_first_test_below_0(self):
        self.stuck(0, DOWN, 0, (0,))
        self.stuck(0, ROADS, 0, (1, 2))
        self.stuck(1, ROADS, 0, (1, 3))
        self.stuck(0, ROADS, 0, (-BIG, BIG))
        self.stuck(0, ROADS, 1, (0, 6))
        self.stuck(0, ROADS, 3, (0, -4))
        self.stuck(1, ROADS, 3, (10, -4))
        self.stuck(2, ROADS, 3, (9, -4))


class Walk(unittest.TestCase):

    def test_examples(self):
        self.assertEqual(walk(NEST, (2, 1), (1, 0, 0)), ("a", (1, 1)))
        self.stuck(2, NEST, (1, 0), (1, 0, 0))

    def test_one_branch(self):
        self.assertEqual(walk(ROADS, (3, 1), (0,)), ("b", (1, 3)))
        self.assertEqual(walk(ROADS, (3, 1), (2,)), ("c", (9, -2)))
        self.assertEqual(walk(walk=(3,), point=(9, -2), program=ROADS), ("c", (8, -2)))

    def test_many_branches(self):
        self.assertEqual(walk(ROADS, (7, 1), (0, 1)), ("a", (9, -4)))
        self.assertEqual(walk(ROADS, (7, 1), (0, 1, 0, 2)), ("c", (-12, -2)))
        self.assertEqual(walk(ROADS, (3, 1), (2, 3, 3, 3)), ("c", (6, -2)))
        self.assertEqual(walk(DOWN, (BIG,), (0,) * 2000), ("a", (BIG - 2000,)))
        self.assertEqual(walk(NEST, (BIG, 0), (1, 1, 0)), ("a", (BIG - 2, 2 * BIG - 2)))

    def stuck(self, told, *given):
        with self.subTest(given=given), self.assertRaises(Stuck) as caught:
            walk(*given)
        self.assertEqual(caught.exception.index, told)

    def test_stuck_at_the_beginning_within_and_at_the_end(self):
        self.stuck(0, ROADS, (1, 2), (0, 2, 3))
        self.stuck(1, ROADS, (6, 2), (0, 1, 0))
        self.stuck(2, ROADS, (4, 0), (0, 2, 3, 3))
        self.stuck(3, DOWN, (3,), (0, 0, 0, 0))
        self.stuck(1, TWO, (0,), (1, 0, 1, 0))

    def test_the_index_is_that_in_the_walk_not_of_the_branch(self):
        self.stuck(0, ROADS, (0, 0), (3,))
        self.stuck(1, ROADS, (0, 0), (2, 3, 3))


class Wrong(Refusing):

    def test_each_argument_and_their_order(self):
        self.refuses_all(can_take, ("program", "index", "place", "point"), (NEST, 1, "a", (3, 0)))
        self.refuses_all(take, ("program", "index", "point"), (NEST, 1, (3, 0)))
        self.refuses_all(walk, ("program", "point", "walk"), (NEST, (2, 1), (1, 0)))

    def test_stuck_is_last(self):
        for point in ((0, 0, 0), [0, 0], (0,), (0, False)):
            with self.assertRaises(ValueError):
                take(NEST, 0, point)

    def test_places_of_other_programs(self):
        with self.assertRaises(ValueError):
            can_take(DOWN, 0, "b", (1,))
        self.assertIs(can_take(TWO, 0, "b", (1,)), False)

    def no_walk(self, told, *given):
        self.refused(walk, ("program", "point", "walk"), given, InvalidWalk, told)

    def test_no_walk_at_all(self):
        for wrong in (*odd_values(), (), [0], 0, "0", range(1)):
            self.no_walk(None, NEST, (0, 0), wrong)

    def test_what_is_no_index(self):
        for wrong in (*odd_values(), -1, 4, 10 ** 40, "0", (), (0,)):
            self.no_walk(0, ROADS, (0, 0), (wrong,))
            self.no_walk(2, ROADS, (0, 0), (0, 1, wrong, 0, Odd()))
            self.no_walk(3, ROADS, (0, 0), (0, 1, 0, wrong))

    def test_what_is_not_behind_the_one_before(self):
        self.no_walk(1, ROADS, (9, 0), (0, 0))
        self.no_walk(1, ROADS, (9, 0), (0, 3, 3))
        self.no_walk(2, ROADS, (9, 0), (0, 2, 2, Odd()))
        self.no_walk(1, TWO, (9,), (1, 1, True))
        self.no_walk(3, TWO, (9,), (1, 0, 1, 1))

    def test_the_walk_ahead_of_what_cannot_be_taken(self):
        self.no_walk(2, ROADS, (0, 0), (0, 1, 1))
        self.no_walk(1, NEST, (0, 0), (0, True))
