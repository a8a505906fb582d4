import unittest

from fallranks.errors import TooMany
from fallranks.programs import Program
from fallranks.walking import rounds
from tests.refusing import Refusing
from tests.samples import DOWN, NEST, TWO, UP, twin

BIG = 10 ** 40


def one(*branches):
    """A program of the variable x without sayings."""
    return Program(("x",), (), branches)


class Rounds(unittest.TestCase):

    def test_examples(self):
        self.assertEqual([rounds(NEST, "a", (2, 1)), rounds(DOWN, "a", (40,))], [6, 40])
        turn = one(("a", "a", (), ((-1, 0),)))
        self.assertEqual([rounds(turn, "a", (5,)), rounds(DOWN, "a", (-5,))], ["endless", 0])

    def test_none_at_all(self):
        for told in (rounds(NEST, "a", (0, 0)), rounds(DOWN, "a", (0,)), rounds(DOWN, "a", (-BIG,)),
                     rounds(TWO, "a", (0,)), rounds(one(("b", "a", (), ((1, 0),))), "a", (3,))):
            self.assertEqual(told, 0)
            self.assertIs(type(told), int)

    def test_sayings_are_not_looked_at(self):
        self.assertEqual(rounds(NEST, "a", (-3, 4)), 4)
        self.assertEqual(rounds(TWO, "b", (-1,)), 1)

    def test_the_longest_of_several_runs(self):
        steps = one(("a", "a", ((1, -5),), ((1, -5),)), ("a", "a", ((1, -2),), ((1, -2),)),
                    ("a", "a", ((1, -3),), ((1, -3),)))
        self.assertEqual([rounds(steps, "a", (many,)) for many in (0, 1, 2, 3, 9, 10, 11)], [0, 0, 1, 1, 4, 5, 5])
        turned = Program(steps.names, steps.sayings, steps.branches[::-1])
        self.assertEqual([rounds(turned, "a", (many,)) for many in (2, 9, 10, 11)], [1, 4, 5, 5])

    def test_a_longer_run_by_way_of_another_place(self):
        around = one(("a", "c", (), ((1, 0),)), ("a", "b", (), ((1, 0),)), ("b", "c", (), ((1, 0),)))
        self.assertEqual([rounds(around, place, (7,)) for place in "abc"], [2, 1, 0])

    def test_two_branches_to_one_state(self):
        same = one(("a", "a", ((1, -1),), ((1, -1),)), ("a", "a", ((1, -1),), ((1, -1),)))
        self.assertEqual(rounds(same, "a", (30,)), 30)

    def test_as_many_states_as_there_may_be(self):
        self.assertEqual(rounds(DOWN, "a", (999,)), 999)
        self.assertEqual(rounds(DOWN, place="a", point=(BIG - BIG + 999,)), 999)
        far = one(("a", "a", ((1, 0),), ((1, -10 ** 6),)))
        self.assertEqual(rounds(far, "a", (998 * 10 ** 6,)), 999)
        self.assertEqual(rounds(TWO, "b", (499,)), 2 * 499 + 1)

    def too_many(self, *given):
        with self.subTest(given=given), self.assertRaises(TooMany) as caught:
            rounds(*given)
        self.assertEqual(caught.exception.given, 1000)

    def test_one_more(self):
        self.too_many(DOWN, "a", (1000,))
        self.too_many(DOWN, "a", (BIG,))
        self.too_many(one(("a", "a", ((1, 0),), ((1, -10 ** 6),))), "a", (999 * 10 ** 6,))
        self.too_many(TWO, "a", (500,))
        self.assertEqual(rounds(TWO, "b", (499,)), 999)
        self.too_many(UP, "a", (0,))

    def test_not_more_states_but_more_branches(self):
        wide = one(*[("a", "a", ((1, -step),), ((1, -step),)) for step in (1, 2, 3, 4, 5)])
        self.assertEqual(rounds(wide, "a", (999,)), 999)
        self.too_many(wide, "a", (1000,))

    def test_a_state_that_stays(self):
        stays = one(("a", "a", ((1, 0), (-1, 0)), ((1, 0),)), ("a", "a", ((1, -1),), ((1, -1),)))
        self.assertEqual([rounds(stays, "a", (point,)) for point in (0, 5, -1)], ["endless", "endless", 0])

    def test_a_state_that_comes_again_after_some_steps(self):
        ring = one(("a", "b", (), ((1, 1),)), ("b", "c", (), ((1, 1),)), ("c", "a", (), ((1, -2),)))
        for place in "abc":
            self.assertEqual(rounds(ring, place, (BIG,)), "endless")
        down = one(("a", "a", ((1, -1),), ((1, -1),)), ("a", "a", ((-1, 0), (1, 0)), ((0, 30),)))
        self.assertEqual(rounds(down, "a", (30,)), "endless")
        self.assertEqual(rounds(down, "a", (-1,)), 0)

    def test_one_branch_ends_and_one_comes_round(self):
        either = one(("a", "b", (), ((1, 0),)), ("a", "a", (), ((0, 3),)), ("b", "b", ((1, -1),), ((1, -1),)))
        self.assertEqual([rounds(either, "a", (3,)), rounds(either, "a", (4,)), rounds(either, "b", (4,))],
                         ["endless", "endless", 4])

    def test_a_circle_that_cannot_be_come_to(self):
        apart = one(("a", "b", (), ((1, 0),)), ("b", "a", ((1, -5),), ((1, 0),)))
        self.assertEqual([rounds(apart, "a", (4,)), rounds(apart, "b", (4,)), rounds(apart, "a", (5,))],
                         [1, 0, "endless"])

    def test_more_than_1000_states_and_a_circle(self):
        ring = one(("a", "a", ((1, -1),), ((1, -1),)), ("a", "a", ((-1, 0), (1, 0)), ((1, 0),)))
        self.assertEqual(rounds(ring, "a", (999,)), "endless")
        self.too_many(ring, "a", (1000,))
        round_about = one(("a", "a", ((1, -1),), ((1, -1),)), ("a", "a", ((-1, 0), (1, 0)), ((0, 1000),)))
        self.too_many(round_about, "a", (0,))
        self.too_many(round_about, "a", (1000,))
        both = one(("a", "b", (), ((1, 0),)), ("b", "b", (), ((-1, 0),)), ("a", "a", (), ((1, 1),)))
        self.too_many(both, "a", (1,))

    def test_a_circle_of_all_the_states_there_may_be(self):
        for most, told in ((998, "endless"), (999, "endless")):
            ring = one(("a", "a", ((1, -1),), ((1, -1),)), ("a", "a", ((-1, 0), (1, 0)), ((0, most),)))
            self.assertEqual(rounds(ring, "a", (most // 2,)), told)

    def test_numbers_of_forty_figures(self):
        apart = Program(("x", "y"), (), (("a", "a", ((1, -1, -1),), ((1, 0, -1), (0, 1, 0))),))
        self.assertEqual(rounds(apart, "a", (BIG + 12, BIG)), 12)
        self.assertEqual(rounds(apart, "a", (-BIG, -BIG - 3)), 3)
        exchanged = Program(("x", "y"), (), (("a", "a", (), ((0, 1, 0), (1, 0, 0))),))
        self.assertEqual(rounds(exchanged, "a", (BIG, -BIG)), "endless")

    def test_numbers_that_become_long(self):
        grows = Program(("x", "y"), (), (("a", "a", ((0, 1, -1),), ((10 ** 6, 0, 0), (0, 1, -1))),))
        self.assertEqual(rounds(grows, "a", (1, 999)), 999)

    def test_the_same_again(self):
        again = Program(*twin((NEST.names, NEST.sayings, NEST.branches)))
        for point in ((2, 1), (4, 0), (5, 3)):
            told = rounds(NEST, "a", point)
            self.assertEqual([rounds(NEST, "a", point), rounds(again, twin("a"), twin(point))], [told, told])


class Wrong(Refusing):

    def test_each_argument_and_their_order(self):
        self.refuses_all(rounds, ("program", "place", "point"), (NEST, "a", (2, 1)))

    def test_too_many_is_last(self):
        for point in ((1000, 1000, 0), (1000,), [1000, 1000], (1000, True)):
            with self.assertRaises(ValueError):
                rounds(NEST, "a", point)
