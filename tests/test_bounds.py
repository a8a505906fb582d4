import random
import unittest

from fallranks.bounds import bound
from fallranks.levels import dead, levels
from fallranks.programs import Program
from fallranks.walking import can_take, take
from tests import oracle
from tests.ladders import LADDERS, random_program, x_program
from tests.refusing import Refusing
from tests.samples import DOWN, FULL, NEST, STOP, TWO, UP, twin

BIG = 10 ** 40


def stepping(step):
    """x becomes less by so much while it is at least 1."""
    return x_program([("a", "a", ((1, -1),), ((1, -step),))])


class Bounds(unittest.TestCase):

    def test_examples(self):
        self.assertEqual([bound(DOWN, "a", (7,)), bound(NEST, "a", (1, 1)), bound(TWO, "b", (3,)), levels(TWO),
                          TWO.places], [(6, 1), None, (6, 1), ((0, 1),), ("b", "a")])

    def test_by_name(self):
        self.assertEqual(bound(point=(7,), program=DOWN, place="a"), (6, 1))
        self.assertEqual(bound(TWO, point=(3,), place="b"), (6, 1))

    def test_fractions_in_lowest_terms(self):
        self.assertEqual([bound(stepping(2), "a", (point,)) for point in (1, 2, 7, 14)], [(0, 1), (1, 2), (3, 1), (13, 2)])
        self.assertEqual([bound(stepping(6), "a", (point,)) for point in (3, 4, 5, 9)], [(1, 3), (1, 2), (2, 3), (4, 3)])
        told = bound(stepping(6), "a", (3,))
        self.assertEqual([type(told), type(told[0]), type(told[1])], [tuple, int, int])

    def test_numbers_of_forty_figures(self):
        self.assertEqual(bound(DOWN, "a", (BIG,)), (BIG - 1, 1))
        self.assertEqual(bound(stepping(3), "a", (BIG,)), ((BIG - 1) // 3, 1))
        self.assertEqual(bound(stepping(10 ** 6), "a", (BIG,)), (BIG - 1, 10 ** 6))
        self.assertEqual(bound(TWO, "b", (BIG,)), (2 * BIG, 1))
        self.assertEqual(bound(DOWN, "a", (-BIG,)), "endless")
        apart = Program(("x", "y"), (), (("a", "a", ((1, -1, -1),), ((1, 0, -1), (0, 1, 0))),))
        self.assertEqual([bound(apart, "a", (BIG + 12, BIG)), bound(apart, "a", (BIG, BIG))], [(11, 1), "endless"])

    def test_endless(self):
        # Where the branch has no points a steeper rank has a lesser value.
        self.assertEqual([bound(DOWN, "a", (point,)) for point in (-1, 0, 1, 2)], ["endless", "endless", (0, 1), (1, 1)])
        # Nothing stands at b: there a rank can be as low as one likes.
        there = x_program([("a", "b", (), ((1, 0),))])
        self.assertEqual([bound(there, "a", (5,)), bound(there, "b", (5,))], [(0, 1), "endless"])
        only_said = x_program(DOWN.branches, [("b", (1, 0))])
        self.assertEqual([bound(only_said, "a", (3,)), bound(only_said, "b", (3,))], [(2, 1), "endless"])

    def test_none(self):
        for program, without_points, steps, rest in LADDERS:
            for place in program.places:
                told = bound(program, place, (3,) * len(program.names))
                self.assertEqual(told is None, len(steps) != 1 or rest != (), program.text)
        # No level, two levels, nothing but what is left, and a level beside something left.
        either = x_program([*DOWN.branches, ("b", "b", (), ((1, 0),))])
        self.assertEqual(levels(either), ((0,),))
        self.assertEqual([bound(STOP, "a", (-3,)), bound(NEST, "a", (0, 0)), bound(UP, "a", (-1,)), bound(either, "a", (3,))],
                         [None, None, None, None])

    def test_dead_branches_do_not_matter(self):
        some = x_program([*DOWN.branches, ("a", "a", ((0, -1),), ((1, 5),))])
        self.assertEqual([dead(some), bound(some, "a", (7,))], [(1,), (6, 1)])
        self.assertEqual([dead(FULL), bound(FULL, "q", (1, 1, 1)), bound(FULL, "r", (0, 0, 0))],
                         [(2, 3, 4), (1, 1), (0, 1)])

    def test_sayings_and_all_branches_count(self):
        said = x_program([("a", "a", (), ((1, -1),))], [("a", (1, -4))])
        self.assertEqual([bound(said, "a", (4,)), bound(said, "a", (9,)), bound(said, "a", (3,))],
                         [(0, 1), (5, 1), "endless"])
        # The lesser step counts where both can be taken.
        both = x_program([("a", "a", ((1, -1),), ((1, -1),)), ("a", "a", ((1, -5),), ((1, -5),))])
        self.assertEqual(bound(both, "a", (9,)), (8, 1))

    def test_random_ones_against_the_other_way(self):
        source = random.Random(11)
        kinds = []
        while len(kinds) < 60:
            program = random_program(source)
            place = source.choice(program.places)
            point = tuple(source.choice((source.randint(-2, 9), source.randint(-BIG, BIG))) for _ in program.names)
            told = bound(program, place, point)
            with self.subTest(program=program.text, point=point):
                if told is not None:
                    self.assertEqual(told, oracle.bound(program, place, point))
                    kinds.append(told if told == "endless" else "fraction")
        self.assertGreater(min(kinds.count("endless"), kinds.count("fraction")), 5)

    def test_no_run_is_longer(self):
        source = random.Random(12)
        many = 0
        for _ in range(150):
            program = random_program(source)
            for place in program.places:
                point = tuple(source.randint(0, 9) for _ in program.names)
                told = bound(program, place, point)
                if told is not None and told != "endless":
                    self.assertLessEqual(longest(program, place, point, told[0] // told[1] + 2), told[0] // told[1] + 1)
                    many += 1
        self.assertGreater(many, 20)

    def test_the_same_again(self):
        again = Program(*twin((TWO.names, TWO.sayings, TWO.branches)))
        self.assertEqual([bound(TWO, "a", (5,)), bound(TWO, "a", (5,)), bound(again, twin("a"), twin((5,)))], [(9, 1)] * 3)


def longest(program, place, point, most):
    """The branches of a longest run on which the sayings hold, looked for as far as so many."""
    said = all(sum(one * two for one, two in zip(form, (*point, 1))) >= 0
               for at, form in program.sayings if at == place)
    if most == 0 or not said:
        return 0
    runs = [0]
    for index in range(len(program)):
        if can_take(program, index, place, point):
            runs.append(1 + longest(program, program.branches[index][1], take(program, index, point), most - 1))
    return max(runs)


class Wrong(Refusing):

    def test_each_argument_and_their_order(self):
        self.refuses_all(bound, ("program", "place", "point"), (NEST, "a", (2, 1)))
        self.refuses_all(bound, ("program", "place", "point"), (Program(NEST.names, (), NEST.branches), "a", (2, 1)))
