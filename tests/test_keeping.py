import random
import unittest

from fallranks.keeping import needless, unkept
from fallranks.programs import Program
from tests import oracle
from tests.ladders import LADDERS, MOST, random_program, x_program
from tests.refusing import Refusing
from tests.samples import DOWN, FULL, NEST, STOP, TWO, UP, twin


class Unkept(unittest.TestCase):

    def test_examples(self):
        self.assertEqual([unkept(NEST), unkept(TWO)], [(), ()])
        self.assertEqual(unkept(NEST.changed(((8, "then 1 0 -2; 1 1 0"),))), ((1, 0),))

    def test_by_name(self):
        self.assertEqual(unkept(program=x_program(DOWN.branches, [("a", (1, -1))])), ((0, 0),))

    def test_no_sayings(self):
        self.assertEqual([unkept(DOWN), unkept(Program(NEST.names, (), NEST.branches))], [(), ()])

    def test_just_0_and_just_below(self):
        for step, told in ((-1, ()), (-2, ((0, 0),)), (0, ()), (MOST, ()), (-MOST, ((0, 0),))):
            self.assertEqual(unkept(x_program([("a", "a", ((1, -1),), ((1, step),))], [("a", (1, 0))])), told)

    def test_below_0_at_fractions_alone(self):
        half = [("a", "a", ((2, -1),), ((1, -1),))]
        self.assertEqual(unkept(x_program(half, [("a", (1, 0))])), ((0, 0),))
        # At no integer the branch can be taken, but at one half it can.
        self.assertEqual(unkept(x_program([("a", "a", ((2, -1), (-2, 1)), ((-1, 0),))], [("a", (1, 0))])), ((0, 0),))

    def test_without_end(self):
        self.assertEqual(unkept(x_program([("a", "a", (), ((-1, 0),))], [("a", (1, 0))])), ((0, 0),))
        self.assertEqual(unkept(x_program([("a", "a", (), ((1, 0),))], [("a", (-1, 10))])), ())

    def test_the_sayings_at_the_target_and_those_at_the_source(self):
        roads = [("a", "b", (), ((1, 0),)), ("b", "a", (), ((1, 0),)), ("b", "c", (), ((1, -1),))]
        self.assertEqual(unkept(x_program(roads, [("b", (1, 0))])), ((0, 0),))
        self.assertEqual(unkept(x_program(roads, [("a", (1, 0)), ("b", (1, 0)), ("c", (1, 0))])), ((2, 2),))
        self.assertEqual(unkept(x_program(roads, [("c", (1, 0)), ("c", (1, 5)), ("c", (0, 0))])), ((2, 0), (2, 1)))
        self.assertEqual(unkept(x_program(roads, [("b", (1, 0)), ("b", (-1, 5)), ("c", (-1, 4))])), ((0, 0), (0, 1)))

    def test_dead_branches(self):
        self.assertEqual([unkept(STOP), unkept(FULL)], [(), ((1, 0), (1, 2))])
        self.assertEqual(unkept(x_program([("a", "b", ((0, -1),), ((1, 0),))], [("b", (0, -1))])), ())

    def test_a_saying_that_holds_nowhere(self):
        self.assertEqual(unkept(x_program([("a", "b", (), ((1, 0),)), ("b", "b", (), ((1, 0),))], [("b", (0, -1))])),
                         ((0, 0),))

    def test_several_variables(self):
        exchanged = Program(("x", "y"), (("a", (1, 0, 0)),), (("a", "a", (), ((0, 1, 0), (1, 0, 0))),))
        self.assertEqual(unkept(exchanged), ((0, 0),))
        self.assertEqual(unkept(Program(("x", "y"), (("a", (1, 0, 0)), ("a", (0, 1, 0))), exchanged.branches)), ())
        self.assertEqual(unkept(Program(("x", "y"), (("a", (1, 1, 0)),), exchanged.branches)), ())

    def test_random_ones_against_the_other_way(self):
        source = random.Random(5)
        some = 0
        for program in [*[ladder[0] for ladder in LADDERS], *[random_program(source) for _ in range(200)]]:
            self.assertEqual(unkept(program), oracle.unkept(program), program.text)
            some += unkept(program) not in ((), tuple((index, at) for index, branch in enumerate(program.branches)
                                                      for at, (place, _) in enumerate(program.sayings)
                                                      if place == branch[1]))
        self.assertGreater(some, 10)

    def test_the_same_again(self):
        program = x_program(DOWN.branches, [("a", (1, -1))])
        again = Program(*twin((program.names, program.sayings, program.branches)))
        self.assertEqual([unkept(program), unkept(program), unkept(again)], [((0, 0),)] * 3)


class Needless(unittest.TestCase):

    def test_examples(self):
        self.assertEqual([needless(NEST), needless(x_program([("a", "a", ((1, -1), (-1, 9)), ((1, -1),))],
                                                             [("a", (1, -3))]))], [(), ((0, 0),)])

    def test_by_name(self):
        self.assertEqual(needless(program=x_program([("a", "a", ((0, 0),), ((1, 0),))])), ((0, 0),))

    def test_sayings_themselves_are_not_told(self):
        # y at least 0 follows from the test that y is at least 1, but it is a saying.
        self.assertEqual(NEST.all_tests(0), ((0, 1, -1), (1, 0, 0), (0, 1, 0)))
        self.assertEqual(needless(NEST), ())
        self.assertEqual(needless(x_program([("a", "a", ((1, 0),), ((1, 0),))], [("a", (1, 0))])), ((0, 0),))
        self.assertEqual(needless(x_program([("a", "b", ((1, 0),), ((1, 0),))], [("b", (1, 0))])), ())

    def test_each_by_itself(self):
        twice = x_program([("a", "a", ((1, -1), (1, -1)), ((1, 0),))])
        self.assertEqual(needless(twice), ((0, 0), (0, 1)))
        self.assertEqual(needless(x_program([("a", "a", ((2, -2), (1, -1), (3, -3)), ((1, 0),))])), ((0, 0), (0, 1), (0, 2)))
        self.assertEqual(needless(x_program([("a", "a", ((1, 0), (1, -1), (-1, 5)), ((1, 0),))])), ((0, 0),))

    def test_what_says_nothing(self):
        for last, told in ((0, ((0, 0),)), (MOST, ((0, 0),))):
            self.assertEqual(needless(x_program([("a", "a", ((0, last),), ((1, 0),))])), told)
        self.assertEqual(needless(x_program([("a", "a", ((MOST, 0),), ((1, 0),))])), ())

    def test_dead_branches(self):
        self.assertEqual([needless(STOP), needless(FULL)], [(), ((0, 1),)])
        self.assertEqual(needless(x_program([("a", "a", ((0, -1), (1, 0), (1, 0)), ((1, 0),)),
                                             ("a", "a", ((1, 0), (1, 0)), ((1, 0),))])), ((1, 0), (1, 1)))

    def test_for_all_fractions(self):
        # For integers x at least 1/2 is x at least 1, but not for fractions.
        self.assertEqual(needless(x_program([("a", "a", ((1, -1), (2, -1)), ((1, 0),))])), ((0, 1),))
        self.assertEqual(needless(x_program([("a", "a", ((3, -1), (2, -1)), ((1, 0),))])), ((0, 0),))

    def test_what_follows_from_several(self):
        program = Program(("x", "y"), (), (("a", "a", ((1, 0, -1), (0, 1, -2), (2, 3, -8)), ((1, 0, 0), (0, 1, 0))),
                                           ("a", "a", ((1, 0, -1), (0, 1, -2), (2, 3, -9)), ((1, 0, 0), (0, 1, 0)))))
        self.assertEqual(needless(program), ((0, 2),))

    def test_no_tests(self):
        self.assertEqual([needless(UP), needless(TWO)], [(), ()])

    def test_random_ones_against_the_other_way(self):
        source = random.Random(6)
        some = 0
        for program in [*[ladder[0] for ladder in LADDERS], *[random_program(source) for _ in range(200)]]:
            self.assertEqual(needless(program), oracle.needless(program), program.text)
            some += needless(program) != ()
        self.assertGreater(some, 20)

    def test_the_same_again(self):
        program = x_program([("a", "a", ((1, -1), (1, -1)), ((1, 0),))])
        again = Program(*twin((program.names, program.sayings, program.branches)))
        self.assertEqual([needless(program), needless(program), needless(again)], [((0, 0), (0, 1))] * 3)


class Wrong(Refusing):

    def test_no_program(self):
        for function in (unkept, needless):
            self.refuses_all(function, ("program",), (NEST,))
