import itertools
import random
import unittest
from unittest import mock

from fallranks.errors import InvalidForm, InvalidForms
from fallranks.least import Table, arrows, least, solve
from tests import oracle
from tests.refusing import Refusing
from tests.samples import Odd, odd_values, twin

BIG = 10 ** 40
BOX = ((1, 0, -2), (-1, 0, 5), (0, 1, 3), (0, -1, 4))
WEDGE = ((2, 3, -5), (1, -1, 0), (0, 1, 0))


class Values(unittest.TestCase):

    def test_examples(self):
        self.assertEqual([least(((1, -1),), (2, 3)), least(((1, -1),), (-1, 0)), least(((1, -1), (-1, 0)), (1, 0)),
                          least((), (0, 0, 7)), least(WEDGE, (1, 1, 0))],
                         [(5, 1), "endless", None, (7, 1), (2, 1)])

    def test_by_name(self):
        self.assertEqual(least(form=(2, 3), tests=((1, -1),)), (5, 1))
        self.assertEqual(least((), form=(0, 4)), (4, 1))

    def test_no_tests(self):
        for many in (1, 2, 3):
            zero = (0,) * many
            self.assertEqual([least((), (*zero, number)) for number in (0, 3, -3, BIG)],
                             [(0, 1), (3, 1), (-3, 1), (BIG, 1)])
            for at, number in itertools.product(range(many), (1, -1, BIG)):
                self.assertEqual(least((), (*zero[:at], number, *zero[at + 1:], 9)), "endless")

    def test_one_test(self):
        self.assertEqual(least(((3, -2),), (1, 0)), (2, 3))
        self.assertEqual(least(((-3, -2),), (-1, 0)), (2, 3))
        self.assertEqual(least(((-3, -2),), (1, 0)), "endless")
        self.assertEqual(least(((2, 3, -5),), (4, 6, 1)), (11, 1))
        self.assertEqual(least(((2, 3, -5),), (2, 3, -5)), (0, 1))
        self.assertEqual(least(((2, 3, -5),), (2, 4, 0)), "endless")
        self.assertEqual(least(((2, 3, -5),), (-2, -3, 5)), "endless")
        self.assertEqual(least(((1, 2, 3, 4),), (-1, -2, -3, -4)), "endless")
        self.assertEqual(least(((2, 4, 6, 5),), (1, 2, 3, 0)), (-5, 2))

    def test_boxes(self):
        self.assertEqual([least(BOX, form) for form in ((1, 0, 0), (-1, 0, 0), (0, 1, 0), (0, -1, 0), (1, 1, 0),
                                                        (-3, 2, 7), (2, -3, 1), (0, 0, 6))],
                         [(2, 1), (-5, 1), (-3, 1), (-4, 1), (-1, 1), (-14, 1), (-7, 1), (6, 1)])
        cube = tuple(tuple([*[sign * (at == k) for k in range(3)], 1]) for at in range(3) for sign in (2, -2))
        self.assertEqual(least(cube, (1, 1, 1, 0)), (-3, 2))
        self.assertEqual(least(cube, (1, -2, 3, 4)), (1, 1))

    def test_wedges(self):
        self.assertEqual(least(WEDGE, (1, 0, 0)), (1, 1))
        self.assertEqual(least(WEDGE, (3, 1, 0)), (4, 1))
        self.assertEqual(least(WEDGE, (1, 4, 0)), (5, 2))
        self.assertEqual(least(WEDGE, (1, -2, 0)), "endless")
        self.assertEqual(least(WEDGE, (1, -1, 0)), (0, 1))
        corner = ((1, 0, 0, 0), (-1, 1, 0, 0), (0, -1, 1, -1))
        self.assertEqual(least(corner, (0, 0, 1, 0)), (1, 1))
        self.assertEqual(least(corner, (0, 0, -1, 0)), "endless")
        self.assertEqual(least(corner, (3, -2, 2, 0)), (2, 1))
        self.assertEqual(least(corner, (3, -6, 2, 0)), "endless")

    def test_an_open_side(self):
        strip = ((1, 0, -2), (-1, 0, 5))
        self.assertEqual([least(strip, (1, 0, 0)), least(strip, (-1, 0, 0)), least(strip, (0, 1, 0)),
                          least(strip, (0, -1, 0)), least(strip, (0, 0, -8))],
                         [(2, 1), (-5, 1), "endless", "endless", (-8, 1)])
        self.assertEqual([least(BOX[:3], (0, 1, 0)), least(BOX[:3], (0, -1, 0)), least(BOX[:3], (4, 0, 0))],
                         [(-3, 1), "endless", (8, 1)])
        edge = ((0, 1, 1, 0), (0, 1, -1, 0))
        self.assertEqual([least(edge, (0, 1, 0, 2)), least(edge, (0, 3, 2, 2)), least(edge, (0, 2, 3, 2)),
                          least(edge, (1, 1, 0, 2))], [(2, 1), (2, 1), "endless", "endless"])

    def test_a_line_and_a_single_point(self):
        line = ((1, 1, -3), (-1, -1, 3))
        self.assertEqual([least(line, (2, 2, 0)), least(line, (1, 0, 0))], [(6, 1), "endless"])
        point = (*line, (1, -1, 0), (-1, 1, 0))
        self.assertEqual([least(point, (1, 0, 0)), least(point, (-5, 3, 1))], [(3, 2), (-2, 1)])

    def test_no_points(self):
        for tests in (((1, -1), (-1, 0)), ((0, -1),), ((0, -BIG),), ((2, -3), (-2, 2)), ((1, 0), (0, -1)),
                      ((1, 1, -1), (-1, 0, 0), (0, -1, 0)), ((1, 0, 0), (-1, 0, -1)), ((0, 0, 0, -1),),
                      ((1, 1, 0, -4), (-1, 0, 1, 1), (0, -1, -1, 2)), ((BIG, -1), (-BIG, 0)), (*BOX, (1, 0, -6))):
            size = len(tests[0])
            for form in ((0,) * size, (1,) * size, (-1,) * size, (0,) * (size - 1) + (5,)):
                self.assertIsNone(least(tests, form), tests)

    def test_just_a_point_and_just_none(self):
        self.assertEqual(least(((3, -2), (-3, 2)), (1, 1)), (5, 3))
        self.assertIsNone(least(((3, -2), (-3, 2 - 1)), (1, 1)))
        self.assertEqual(least(((BIG, -1), (-BIG, 1)), (1, 0)), (1, BIG))
        self.assertIsNone(least(((BIG, -2), (-BIG, 1)), (1, 0)))

    def test_constant_forms(self):
        self.assertEqual(least(WEDGE, (0, 0, 5)), (5, 1))
        self.assertEqual(least(WEDGE, (0, 0, 0)), (0, 1))
        self.assertEqual(least(((0, 0), (0, 3)), (0, -2)), (-2, 1))
        self.assertEqual(least(((0, 0), (0, 3), (1, -1)), (1, 0)), (1, 1))
        self.assertEqual(least(((0, 0, 0, 0),), (0, 0, 0, 9)), (9, 1))

    def test_points_that_are_no_integers(self):
        self.assertEqual(least(((2, -1), (-2, 1)), (1, 0)), (1, 2))
        self.assertEqual(least(((7, -3),), (5, -2)), (1, 7))
        self.assertEqual(least(((3, 1, -1), (1, 3, -1)), (1, 1, 0)), (1, 2))
        self.assertEqual(least(((2, 0, 0, -1), (0, 3, 0, -1), (0, 0, 5, -1)), (1, 1, 1, 0)), (31, 30))

    def test_lowest_terms(self):
        for number, told in ((6, (3, 1)), (-6, (-3, 1)), (3, (3, 2)), (0, (0, 1)), (-3, (-3, 2)), (4, (2, 1))):
            self.assertEqual(least(((2, -number),), (1, 0)), told)
            self.assertEqual(least(((20, -10 * number),), (1, 0)), told)

    def test_the_order_of_the_tests_and_tests_twice(self):
        for tests, form in ((WEDGE, (3, 1, 0)), (WEDGE, (1, 4, 0)), (BOX[:3], (2, 1, 1)), (BOX, (-3, 2, 7))):
            told = least(tests, form)
            for some in itertools.permutations(tests):
                self.assertEqual(least(some, form), told)
                self.assertEqual(least(some + some, form), told)
                self.assertEqual(least((some[0], *some), form), told)

    def test_nine_tests(self):
        around = tuple((k, k * k, 0) for k in range(-4, 5))
        self.assertEqual(least(around, (0, 1, 0)), (0, 1))
        self.assertEqual(least(around, (1, 2, 0)), (0, 1))
        self.assertEqual(least(around[:-1] + ((-1, -1, 50),), (0, -1, 0)), oracle.least(around[:-1] + ((-1, -1, 50),),
                                                                                    (0, -1, 0)))
        moved = tuple((k, k * k, -k - 7) for k in range(-4, 5))
        self.assertIsNone(least(moved, (0, 1, 0)))
        self.assertEqual(least((*BOX, *BOX, (1, 1, 0)), (1, 1, 0)), (0, 1))

    def test_long_numbers(self):
        for size in (10 ** 27 - 1, BIG, BIG * BIG + 7):
            self.assertEqual(least(((1, -size),), (1, 0)), (size, 1))
            self.assertEqual(least(((size, -1),), (size + 1, 0)), (size + 1, size))
            self.assertEqual(least(((size, 1 - size), (-size, size)), (-1, 0)), (-1, 1))
            self.assertEqual(least(((size, size - 1, -1), (size + 1, size, -1), (1, 0, size * 2)), (0, 1, 0)),
                             oracle.least(((size, size - 1, -1), (size + 1, size, -1), (1, 0, size * 2)), (0, 1, 0)))
            self.assertEqual(least(((1, 0, 0, -size), (-1, 1, 0, size), (0, -1, 1, -size)), (0, 0, 1, -1)),
                             (size - 1, 1))
            self.assertIsNone(least(((size, -size - 1), (-size, size)), (1, 0)))

    def test_random_ones_against_the_other_way(self):
        source = random.Random(27)
        kinds = {}
        for _ in range(300):
            size = source.randint(2, 4)
            most = source.choice((1, 2, 9, 10 ** 27, BIG))
            forms = [tuple(source.choice((0, source.randint(-most, most), source.randint(-most, most)))
                           for _ in range(size)) for _ in range(source.randint(1, 10))]
            told = least(tuple(forms[1:]), forms[0])
            self.assertEqual(told, oracle.least(forms[1:], forms[0]), forms)
            kinds[told if told is None or told == "endless" else "number"] = True
        self.assertEqual(len(kinds), 3)

    def test_the_same_again(self):
        tests, form = WEDGE, (1, 4, 0)
        self.assertEqual(least(tests, form), least(twin(tests), twin(form)))
        self.assertEqual((tests, form), (((2, 3, -5), (1, -1, 0), (0, 1, 0)), (1, 4, 0)))


class Wrong(Refusing):

    def test_each_argument_and_their_order(self):
        self.refuses_all(least, ("tests", "form"), (((1, 0, 0),), (1, 1, 0)))

    def forms(self, told, tests, form=(1, 0)):
        self.refused(least, ("tests", "form"), (tests, form), InvalidForms, told)

    def test_what_is_no_tuple(self):
        for wrong in (*odd_values(), "", "ab", 0, 1, [(1, 0)], [], {(1, 0): 1}):
            self.forms(None, wrong)
            self.forms(None, wrong, Odd())

    def test_what_is_no_form(self):
        for wrong in (*odd_values(), "", "ab", 0, 1, (), (1,), (1, 2, 3, 4, 5), [1, 0], (1, True), (False, 0), (1, None),
                      ("1", 0), (1, (0,)), ((1, 0),), (1, 1j), (1, "")):
            self.forms(0, (wrong,))
            self.forms(0, (wrong, (1, 0)))
            self.forms(2, ((1, 0), (0, 1), wrong, Odd()))
            self.forms(8, ((1, 0),) * 8 + (wrong,))

    def test_unlike_lengths(self):
        self.forms(1, ((1, 0), (1, 0, 0)))
        self.forms(1, ((1, 0, 0), (1, 0)), (1, 0, 0))
        self.forms(2, ((1, 0, 0, 0), (1, 0, 0, 0), (1, 0, 0), (1, 0)), (1, 0, 0, 0))

    def test_ten_tests(self):
        self.assertEqual(least(((1, 0),) * 9, (1, 0)), (0, 1))
        self.forms(9, ((1, 0),) * 10)
        self.forms(9, ((1, 0),) * 30)
        self.forms(9, ((1, 0),) * 9 + (Odd(),))
        self.forms(4, ((1, 0),) * 4 + ((1, True),) + ((1, 0),) * 5)

    def form(self, form, tests=((1, 0),)):
        self.refused(least, ("tests", "form"), (tests, form), InvalidForm, form)

    def test_wrong_forms(self):
        for wrong in (*odd_values(), "", "ab", 0, 1, (), (1,), (1, 2, 3, 4, 5), [1, 0], (1, True), (False, 0), (1, None),
                      ("1", 0), (1, (0,)), ((1, 0),)):
            self.form(wrong)
            self.form(wrong, ())

    def test_not_as_many_integers(self):
        self.form((1, 0, 0))
        self.form((1, 0), ((1, 0, 0), (1, 0, 0)))
        self.form((1, 0, 0, 0), ((1, 0, 0),))
        for form in ((1, 0), (1, 0, 0), (1, 0, 0, 0)):
            self.assertEqual(least((), form), "endless")


class Arrows(unittest.TestCase):

    def test_as_few_as_there_can_be(self):
        self.assertEqual(sorted(arrows(((1, -1), (-3, 7)), 1)), [(1, 1), (7, 3)])
        self.assertEqual(sorted(arrows(WEDGE, 2)), [(1, 0, 0), (1, 1, 0), (1, 1, 1), (5, 0, 2)])
        self.assertEqual(sorted(arrows((), 1)), [(-1, 0), (0, 1), (1, 0)])
        cube = tuple(tuple([*[sign * (at == k) for k in range(3)], 1]) for at in range(3) for sign in (1, -1))
        self.assertEqual(sorted(arrows(cube, 3)), sorted((*some, 1) for some in itertools.product((1, -1), repeat=3)))
        self.assertEqual(sorted(arrows((*cube, *cube, (0, 0, 0, 3)), 3)), sorted(arrows(cube, 3)))
        pyramid = ((1, 0, 1, 0), (-1, 0, 1, 0), (0, 1, 1, 0), (0, -1, 1, 0), (0, 0, -1, 5))
        self.assertEqual(len(arrows(pyramid, 3)), 5)


class Solve(unittest.TestCase):

    def test_prices(self):
        # The third column is cheap, but the second end takes only one of it.
        self.assertEqual(solve([[1, 0], [0, 1], [2, 1]], [4, 1], [3, 1, 1]), (1, [3, -5]))
        self.assertEqual(solve([[3]], [2], [5]), (3, [5]))
        self.assertEqual(solve([[-3]], [-2], [5]), (3, [-5]))

    def test_nothing_makes_up_the_ends(self):
        self.assertIsNone(solve([[1]], [-1], [0]))
        self.assertIsNone(solve([[1, 1], [1, 1]], [1, 2], [0, 0]))
        self.assertIsNone(solve([[0]], [1], [1]))

    def test_no_base_comes_again(self):
        # With another order of the bases this goes round for ever.
        columns = [[9, 9, 3], [-6, -2, 3], [-9, -5, -5], [2, -9, -7], [1, 0, 0], [0, 1, 0], [0, 0, 1]]
        pivot = Table.pivot
        bases = []

        def looked_at(table, at, to):
            self.assertNotIn(sorted(table.base), bases)
            bases.append(sorted(table.base))
            pivot(table, at, to)

        with mock.patch.object(Table, "pivot", looked_at):
            self.assertEqual(solve(columns, [0, 0, 0], [9, 7, 1, 10, 0, 0, 0]), (5, [0, -1, 0]))
        self.assertGreater(len(bases), 3)

    def test_against_the_other_way(self):
        source = random.Random(3)
        told = []
        for _ in range(150):
            size = source.randint(1, 5)
            columns = [[source.randint(-3, 3) for _ in range(size)] for _ in range(source.randint(1, 9))]
            ends = [source.choice((0, 0, source.randint(-3, 3))) for _ in range(size)]
            costs = [source.randint(0, 4) for _ in columns]
            found = solve(columns, ends, costs)
            right = oracle.solved([[column[at] for column in columns] for at in range(size)], ends, costs)
            told.append(found is None)
            if found is None:
                self.assertIsNone(right)
                continue
            d, prices = found
            self.assertGreaterEqual(d, 1)
            self.assertEqual(sum(one * other for one, other in zip(prices, ends)), right[0] * d)
            for column, cost in zip(columns, costs):
                self.assertLessEqual(sum(one * other for one, other in zip(prices, column)), cost * d)
        self.assertEqual(sorted(set(told)), [False, True])
