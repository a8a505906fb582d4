import random
import unittest

from fallranks.bounds import bound
from fallranks.certificates import certify_endless, certify_fewest, certify_row, certify_within
from fallranks.checker import accepts
from fallranks.errors import TooMany
from fallranks.levels import fewest, has_row, left
from fallranks.programs import Program
from fallranks.ranks import judge, ranks
from fallranks.walking import rounds, walk
from tests import proving
from tests.ladders import LADDERS, random_program, x_program
from tests.refusing import Refusing
from tests.samples import DOWN, FULL, NEST, STOP, TWO, UP, twin

BIG = 10 ** 40
HALVES = x_program([("a", "a", ((1, -1),), ((1, -2),))])
TURN = x_program([("a", "a", (), ((-1, 0),))])


class Certifying(unittest.TestCase):

    def certified(self, pair, claim):
        """This is a pair of this claim and a certificate for it."""
        self.assertEqual([type(pair), len(pair)], [tuple, 2])
        self.assertEqual(pair[0], claim)
        self.assertIs(accepts(*pair), True)
        self.assertIs(proving.accepts(*pair), True)


class Rows(Certifying):

    def test_examples(self):
        pairs = (certify_row(NEST), certify_fewest(NEST), certify_row(UP), certify_within(DOWN, "a", (7,)))
        self.assertEqual(
            [[accepts(*pair) for pair in pairs], [pair[0][0] for pair in pairs], pairs[0][0][2], pairs[3][0][2:],
             certify_endless(DOWN, "a", (3,)), certify_fewest(DOWN)],
            [[True, True, True, True], ["ranks", "fewest", "none", "within"], 2, ("a", (7,), 7), None, None])

    def test_by_name(self):
        self.certified(certify_row(program=DOWN), ("ranks", DOWN.text, 1))
        self.certified(certify_fewest(program=NEST), ("fewest", NEST.text, 2))
        self.certified(certify_endless(point=(5,), program=TURN, place="a"), ("endless", TURN.text, "a", (5,)))
        self.certified(certify_within(point=(7,), program=DOWN, place="a"), ("within", DOWN.text, "a", (7,), 7))

    def test_ladders(self):
        for program, _, steps, rest in LADDERS:
            with self.subTest(program=program.text):
                claim = ("none", program.text) if rest else ("ranks", program.text, len(steps))
                self.certified(certify_row(program), claim)
                if rest or len(steps) < 2:
                    self.assertIsNone(certify_fewest(program))
                else:
                    self.certified(certify_fewest(program), ("fewest", program.text, len(steps)))

    def test_the_certificate_of_a_row(self):
        for program in (NEST, DOWN, TWO, STOP, FULL):
            row, papers = certify_row(program)[1]
            self.assertEqual([row, judge(program, row), len(papers)], [ranks(program), (), len(program)])
        self.assertEqual([paper[0] for paper in certify_row(FULL)[1][1]], ["falls", "falls", "dead", "dead", "dead"])
        self.assertEqual([paper[1] for paper in certify_row(NEST)[1][1]], [1, 0])
        self.certified(certify_row(STOP), ("ranks", STOP.text, 0))

    def test_the_bar_of_no_row(self):
        for program, _, _, rest in LADDERS:
            if rest:
                bar = certify_row(program)[1]
                self.assertEqual(tuple(part[0] for part in bar), rest)
                self.assertGreater(min(part[1] for part in bar), 0)

    def test_the_bars_of_fewest(self):
        for program, _, steps, rest in LADDERS:
            if not rest and len(steps) > 1:
                bars = certify_fewest(program)[1]
                self.assertEqual(len(bars), len(steps) - 1)
                for at, bar in enumerate(bars):
                    high = tuple(index for index, w, _, _ in bar if w > 0)
                    self.assertEqual(high, tuple(sorted(sum(steps[at + 1:], ()))))

    def test_random_ones(self):
        source = random.Random(21)
        kinds = []
        for _ in range(250):
            program = random_program(source)
            with self.subTest(program=program.text):
                many = fewest(program)
                self.certified(certify_row(program), ("none", program.text) if many is None else ("ranks", program.text, many))
                if many is None or many < 2:
                    self.assertIsNone(certify_fewest(program))
                else:
                    self.certified(certify_fewest(program), ("fewest", program.text, many))
                kinds.append(many)
        for many in (None, 0, 1, 2):
            self.assertIn(many, kinds)

    def test_large_numbers(self):
        most = 10 ** 6
        source = random.Random(22)
        for _ in range(3):
            positive = tuple(tuple(source.randint(1, most) for _ in range(4)) for _ in range(3))
            branches = tuple((here, there, (tuple(source.randint(1, most) for _ in range(4)),),
                              tuple((*[int(at == k) for at in range(3)], -source.randint(1, most)) for k in range(3)))
                             for here, there in ("aa", "bb", "cc", "ab", "bc"))
            program = Program(("x", "y", "z"), tuple(zip("abc", positive)), branches)
            self.assertEqual(left(program), ())
            self.certified(certify_row(program), ("ranks", program.text, fewest(program)))
            for place in "abc":
                point = tuple(source.randint(0, BIG) for _ in range(3))
                pair = certify_within(program, place, point)
                if pair is not None:
                    self.certified(pair, ("within", program.text, place, point, pair[0][4]))

    def test_the_same_again(self):
        for program in (NEST, DOWN, UP, STOP):
            again = Program(*twin((program.names, program.sayings, program.branches)))
            self.assertEqual([certify_row(program), certify_fewest(program)], [certify_row(again), certify_fewest(again)])
            self.assertEqual(certify_row(program), certify_row(program))


class Ends(Certifying):

    def test_endless(self):
        for program, place, point in (
                (TURN, "a", (5,)), (TURN, "a", (0,)), (TURN, "a", (-BIG,)),
                (x_program([("a", "b", (), ((1, 1),)), ("b", "c", (), ((1, 1),)), ("c", "a", (), ((1, -2),))]), "b", (BIG,)),
                (x_program([("a", "a", ((1, -1),), ((1, -1),)), ("a", "a", ((-1, 0), (1, 0)), ((0, 30),))]), "a", (30,)),
                (x_program([("a", "a", ((1, -1),), ((1, -1),)), ("a", "a", ((-1, 0), (1, 0)), ((1, 0),))]), "a", (999,)),
                (x_program([("a", "b", (), ((1, 0),)), ("a", "a", (), ((0, 3),)), ("b", "b", ((1, -1),), ((1, -1),))]),
                 "a", (4,))):
            self.assertEqual(rounds(program, place, point), "endless")
            pair = certify_endless(program, place, point)
            self.certified(pair, ("endless", program.text, place, point))
            way, ring = pair[1]
            begin = walk(program, point, way) if way else (place, point)
            self.assertEqual(walk(program, begin[1], ring), begin)

    def test_branches_that_lead_to_an_end_are_not_taken(self):
        # From a the first branch leads to where all runs end.
        program = x_program([("a", "c", (), ((1, 0),)), ("a", "b", (), ((1, 0),)), ("b", "c", (), ((1, 0),)),
                             ("b", "a", (), ((1, 0),))])
        self.assertEqual(certify_endless(program, "a", (3,))[1], ((), (1, 3)))
        self.assertIsNone(certify_endless(program, "c", (3,)))

    def test_sayings_are_not_looked_at(self):
        program = x_program([("a", "a", (), ((1, 0),))], [("a", (0, -1))])
        self.certified(certify_endless(program, "a", (5,)), ("endless", program.text, "a", (5,)))

    def test_none_where_all_runs_end(self):
        for program, place, point in ((DOWN, "a", (999,)), (NEST, "a", (2, 1)), (STOP, "a", (0,)), (TWO, "b", (-1,)),
                                      (DOWN, "a", (-BIG,))):
            self.assertIsNone(certify_endless(program, place, point))

    def test_too_many(self):
        for program, point in ((DOWN, (1000,)), (UP, (0,)), (NEST, (BIG, BIG))):
            with self.assertRaises(TooMany) as caught:
                certify_endless(program, "a", point)
            self.assertEqual(caught.exception.given, 1000)

    def test_within(self):
        for program, place, point, most in ((DOWN, "a", (1,), 1), (DOWN, "a", (BIG,), BIG), (HALVES, "a", (14,), 7),
                                            (HALVES, "a", (13,), 7), (HALVES, "a", (12,), 6), (TWO, "b", (3,), 7),
                                            (TWO, "a", (3,), 6), (HALVES, "a", (2,), 1), (FULL, "q", (1, 1, 1), 2)):
            self.certified(certify_within(program, place, point), ("within", program.text, place, point, most))

    def test_within_of_dead_branches_too(self):
        some = x_program([("a", "a", ((0, -1),), ((1, 5),)), *DOWN.branches])
        pair = certify_within(some, "a", (7,))
        self.certified(pair, ("within", some.text, "a", (7,), 7))
        self.assertEqual([paper[0] for paper in pair[1][1]], ["dead", "falls"])

    def test_within_without_a_bound_that_is_a_number(self):
        for program, point in ((NEST, (1, 1)), (UP, (1,)), (STOP, (0,)), (DOWN, (0,)), (DOWN, (-BIG,))):
            self.assertIsNone(certify_within(program, "a", point))

    def test_random_ones(self):
        source = random.Random(23)
        kinds = []
        for _ in range(200):
            program = random_program(source)
            place = source.choice(program.places)
            point = tuple(source.choice((source.randint(-2, 9), source.randint(-BIG, BIG))) for _ in program.names)
            with self.subTest(program=program.text, place=place, point=point):
                self.ends(program, place, point, kinds)
                amount = bound(program, place, point)
                pair = certify_within(program, place, point)
                if amount is None or amount == "endless":
                    self.assertIsNone(pair)
                else:
                    most = amount[0] // amount[1] + 1
                    self.certified(pair, ("within", program.text, place, point, most))
                    kinds.append("within")
        for kind in ("within", "endless", "ends", "too many"):
            self.assertGreater(kinds.count(kind), 5)

    def ends(self, program, place, point, kinds):
        try:
            told = rounds(program, place, point)
        except TooMany:
            self.assertRaises(TooMany, certify_endless, program, place, point)
            kinds.append("too many")
            return
        pair = certify_endless(program, place, point)
        if told == "endless":
            self.certified(pair, ("endless", program.text, place, point))
        else:
            self.assertIsNone(pair)
        kinds.append("endless" if told == "endless" else "ends")

    def test_has_row(self):
        for program, _, _, _ in LADDERS:
            self.assertIs(certify_row(program)[0][0] == "ranks", has_row(program))


class Wrong(Refusing):

    def test_each_argument_and_their_order(self):
        for function in (certify_row, certify_fewest):
            self.refuses_all(function, ("program",), (NEST,))
        for function in (certify_endless, certify_within):
            self.refuses_all(function, ("program", "place", "point"), (NEST, "a", (2, 1)))

    def test_too_many_is_last(self):
        for point in ((1000, 1000, 0), (1000,), [1000, 1000], (1000, True)):
            with self.assertRaises(ValueError):
                certify_endless(NEST, "a", point)
