"""All functions of a program agree with one another, over many drawn programs."""

import random
import unittest

from fallranks.bounds import bound
from fallranks.certificates import certify_endless, certify_fewest, certify_row, certify_within
from fallranks.checker import accepts
from fallranks.consoles import Console
from fallranks.errors import Broken, NoRow, TooMany
from fallranks.keeping import needless, unkept
from fallranks.leads import Lead
from fallranks.levels import dead, fewest, has_row, left, levels
from fallranks.libraries import Library
from fallranks.mends import holds, mends
from fallranks.programs import Program
from fallranks.ranks import fall, judge, ranks
from fallranks.walking import rounds
from tests.ladders import LADDERS, random_program

BIG = 10 ** 40


def value(form, point):
    return sum(one * two for one, two in zip(form, (*point, 1)))


def told_rounds(program, place, point):
    """As `rounds` tells it, or "too many"."""
    try:
        return rounds(program, place, point)
    except TooMany:
        return "too many"


class Agreement(unittest.TestCase):

    def setUp(self):
        self.source = random.Random(24)
        self.programs = [ladder[0] for ladder in LADDERS] + [random_program(self.source) for _ in range(120)]

    def states(self, program):
        for place in program.places:
            for most in (9, BIG):
                yield place, tuple(self.source.randint(-2, most) for _ in program.names)

    def test_levels(self):
        for program in self.programs:
            with self.subTest(program=program.text):
                steps, rest = levels(program), left(program)
                self.assertEqual(sorted(dead(program) + sum(steps, ()) + rest), list(range(len(program))))
                self.assertNotIn((), steps)
                self.assertIs(has_row(program), rest == ())
                self.assertEqual(fewest(program), None if rest else len(steps))
                zero = (1, ((0,) * (len(program.names) + 1),) * len(program.places))
                for index in range(len(program)):
                    self.assertEqual(fall(program, index, zero), None if index in dead(program) else (0, 1))

    def test_ranks(self):
        for program in self.programs:
            with self.subTest(program=program.text):
                if left(program):
                    with self.assertRaises(NoRow) as caught:
                        ranks(program)
                    self.assertEqual(caught.exception.given, left(program))
                    continue
                row, steps = ranks(program), levels(program)
                self.assertEqual([len(row), judge(program, row)], [fewest(program), ()])
                for at, rank in enumerate(row):
                    self.assertEqual(judge(program, row[:at]), tuple(sorted(sum(steps[at:], ()))))
                    for index in steps[at]:
                        amount = fall(program, index, rank)
                        self.assertGreaterEqual(amount[0], amount[1])

    def test_bounds_and_rounds(self):
        kinds = []
        for program in self.programs:
            for place, point in self.states(program):
                with self.subTest(program=program.text, place=place, point=point):
                    amount = bound(program, place, point)
                    many = told_rounds(program, place, point)
                    said = all(value(form, point) >= 0 for at, form in program.sayings if at == place)
                    # If all sayings are kept they hold on each run from here.
                    if said and unkept(program) == () and has_row(program):
                        self.assertNotEqual(many, "endless")
                        if isinstance(amount, tuple) and many != "too many":
                            self.assertLessEqual(many, amount[0] // amount[1] + 1)
                            kinds.append("bounded")
                    self.assertEqual(amount is None, len(levels(program)) != 1 or left(program) != ())
                    if isinstance(amount, tuple):
                        d, forms = ranks(program)[0]
                        self.assertLessEqual(amount[0] * d, value(forms[program.places.index(place)], point) * amount[1])
                        kinds.append("number")
        self.assertGreater(kinds.count("bounded"), 15)
        self.assertGreater(kinds.count("number"), 50)

    def test_certificates(self):
        for program in self.programs:
            with self.subTest(program=program.text):
                claim, certificate = certify_row(program)
                self.assertIs(accepts(claim, certificate), True)
                self.assertEqual(claim[0], "ranks" if has_row(program) else "none")
                if has_row(program):
                    self.assertEqual([claim[2], judge(program, certificate[0])], [fewest(program), ()])
                pair = certify_fewest(program)
                self.assertEqual(pair is None, left(program) != () or len(levels(program)) < 2)
                self.assertTrue(pair is None or accepts(*pair))
                for place, point in self.states(program):
                    self.ends(program, place, point)

    def ends(self, program, place, point):
        many = told_rounds(program, place, point)
        if many != "too many":
            pair = certify_endless(program, place, point)
            self.assertEqual(pair is None, many != "endless")
            self.assertTrue(pair is None or accepts(*pair))
        amount = bound(program, place, point)
        pair = certify_within(program, place, point)
        self.assertEqual(pair is None, not isinstance(amount, tuple))
        if pair is not None:
            self.assertEqual(pair[0], ("within", program.text, place, point, amount[0] // amount[1] + 1))
            self.assertIs(accepts(*pair), True)
            self.assertIs(holds(program, ("within", place, point, pair[0][4])), True)

    def test_wishes_libraries_and_consoles(self):
        for program in self.programs:
            library, console = Library(), Console()
            library["p"] = program
            line = program.text.replace("\n", " / ")
            self.assertEqual(console.do(f"program p {line}"), "put")
            wishes = [("row",), ("kept",), ("ranks", 1), ("ranks", 2)]
            right = [has_row(program), unkept(program) == (), fewest(program) in (0, 1), fewest(program) in (0, 1, 2)]
            for wish, is_right in zip(wishes, right):
                self.assertIs(holds(program, wish), is_right)
                self.assertEqual(mends(program, (wish,), ()), ((),) if is_right else ())
                if is_right:
                    library.wish("p", wish)
                else:
                    self.assertRaises(Broken, library.wish, "p", wish)
            self.assertEqual(library.wishes, tuple(("p", wish) for wish, is_right in zip(wishes, right) if is_right))
            self.assertEqual(console.do("ranks p"), str(fewest(program)) if has_row(program) else "no row")
            self.assertEqual(console.do("kept p"), "yes" if right[1] else "no")

    def test_leads_run_as_far_as_the_rounds(self):
        for program in self.programs[::3]:
            for place, point in self.states(program):
                many = told_rounds(program, place, point)
                lead = Lead(program, place, point)
                while lead.ready and len(lead) < 30 and lead.again is None:
                    lead.take(self.source.choice(lead.ready))
                if isinstance(many, int):
                    self.assertLessEqual(len(lead), many)
                    self.assertIsNone(lead.again)
                elif lead.again is not None:
                    self.assertIn(many, ("endless", "too many"))

    def test_needless_tests_can_be_taken_out(self):
        found = 0
        for program in self.programs:
            for index, at in needless(program):
                source, target, tests, changes = program.branches[index]
                branch = (source, target, tests[:at] + tests[at + 1:], changes)
                other = Program(program.names, program.sayings,
                                (*program.branches[:index], branch, *program.branches[index + 1:]))
                self.assertEqual([levels(other), left(other), dead(other), unkept(other)],
                                 [levels(program), left(program), dead(program), unkept(program)])
                found += 1
        self.assertGreater(found, 20)
