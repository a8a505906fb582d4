import random
import unittest

from fallranks.levels import dead, fewest, has_row, left, levels
from fallranks.programs import Program
from tests import oracle
from tests.ladders import LADDERS, random_program
from tests.refusing import Refusing
from tests.samples import DOWN, NEST, STOP, UP, twin


class Told(unittest.TestCase):

    def test_examples(self):
        self.assertEqual([levels(NEST), left(NEST), fewest(NEST), levels(DOWN), has_row(UP), left(UP), fewest(UP),
                          dead(UP)],
                         [((1,), (0,)), (), 2, ((0,),), False, (0,), None, ()])
        self.assertEqual([dead(STOP), levels(STOP), fewest(STOP)], [(0,), (), 0])

    def test_by_name(self):
        self.assertEqual([dead(program=STOP), levels(program=NEST), left(program=UP), has_row(program=NEST),
                          fewest(program=NEST)], [(0,), ((1,), (0,)), (0,), True, 2])

    def told(self, program, without_points, steps, rest):
        with self.subTest(program=program.text):
            self.assertEqual(dead(program), without_points)
            self.assertEqual(levels(program), steps)
            self.assertEqual(left(program), rest)
            self.assertIs(has_row(program), rest == ())
            self.assertEqual(fewest(program), len(steps) if rest == () else None)

    def test_ladders(self):
        for program, *right in LADDERS:
            self.told(program, *right)

    def test_the_other_way_tells_the_same_of_the_ladders(self):
        for program, *right in LADDERS:
            if len(program) < 5:
                self.assertEqual(oracle.levels(program), tuple(right), program.text)

    def test_random_ones_against_the_other_way(self):
        source = random.Random(1)
        kinds = {}
        for _ in range(80):
            program = random_program(source)
            right = oracle.levels(program)
            self.told(program, *right)
            kinds[len(right[1]), right[2] == ()] = True
        for kind in ((0, False), (0, True), (1, False), (1, True), (2, False), (2, True)):
            self.assertIn(kind, kinds)

    def test_names_of_variables_and_places_do_not_matter(self):
        for program, *right in LADDERS:
            other = {"a": "z9", "b": "y", "c": "a", "p": "q", "q": "r", "r": "p"}
            self.told(Program(tuple("v" + name[:7] for name in program.names),
                              tuple((other[place], form) for place, form in program.sayings),
                              tuple((other[branch[0]], other[branch[1]], *branch[2:]) for branch in program.branches)),
                      *right)

    def test_the_same_again(self):
        for program, *right in LADDERS:
            text = program.text
            self.told(program, *right)
            self.told(Program(*twin((program.names, program.sayings, program.branches))), *right)
            self.assertEqual(program.text, text)
            self.assertEqual(str([levels(program), left(program), dead(program)]),
                             str([levels(program), left(program), dead(program)]))


class Wrong(Refusing):

    def test_no_program(self):
        for function in (dead, levels, left, has_row, fewest):
            self.refuses_all(function, ("program",), (NEST,))
