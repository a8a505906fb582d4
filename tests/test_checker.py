import inspect
import random
import unittest

from fallranks.bounds import bound
from fallranks.certificates import certify_endless, certify_fewest, certify_row, certify_within
from fallranks.checker import accepts
from fallranks.errors import TooMany
from fallranks.levels import fewest, has_row, levels
from fallranks.programs import Program
from fallranks.ranks import judge
from fallranks.walking import rounds
from tests import proving
from tests.ladders import LADDERS, random_program, x_program
from tests.samples import DOWN, DOWN_TEXT, NEST, NEST_TEXT, STOP, TWO, UP, UP_TEXT, Odd, odd_values, twin
from tests.test_bounds import longest

BIG = 10 ** 40
STOP_TEXT = STOP.text
TURN_TEXT = "vars x\nbranch a a\nthen -1 0"
TURN = Program.read(TURN_TEXT)
# Of each word a claim with a certificate for it.
DOWN_ROW = (((1, ((1, 0),)),), (("falls", 0, (((1, (1,), 1), (1, (0,), 0)),)),))
NEST_ROW = (((1, ((1, 0, 0),)), (1, ((0, 1, 0),))),
            (("falls", 1, (((1, (0, 1, 0), 0), (1, (0, 0, 0), 0)), ((1, (0, 0, 1), 0), (1, (0, 0, 0), 0)))),
             ("falls", 0, (((1, (0, 1, 0), 0), (1, (0, 0, 0), 0)),))))
NEST_BAR = ((0, 1, (0, 1), (0, 0)), (1, 0, (1, 0), (0, 0)))
RIGHT = (
    (("ranks", DOWN_TEXT, 1), DOWN_ROW),
    (("ranks", NEST_TEXT, 2), NEST_ROW),
    (("ranks", STOP_TEXT, 0), ((), (("dead", (1, 1)),))),
    (("fewest", NEST_TEXT, 2), (NEST_BAR,)),
    (("none", UP_TEXT), ((0, 1, (0,), (1,)),)),
    (("endless", TURN_TEXT, "a", (5,)), ((), (0, 0))),
    (("within", DOWN_TEXT, "a", (7,), 8), DOWN_ROW),
)


class Checking(unittest.TestCase):

    def says(self, right, claim, certificate):
        with self.subTest(claim=claim, certificate=certificate):
            self.assertIs(accepts(claim, certificate), right)
            self.assertIs(accepts(certificate=certificate, claim=claim), right)
            self.assertIs(proving.accepts(claim, certificate), right)


class Accepting(Checking):

    def test_examples(self):
        self.assertEqual([accepts(("none", str(UP)), ((0, 1, (0,), (1,)),)), accepts(("none", str(UP)), ((0, 1, (0,), (0,)),)),
                          accepts(("ranks", str(DOWN), 1), (((1, ((1, 0),)),), (("falls", 0, (((1, (1,), 1),
                                                                                           (1, (0,), 0)),)),)))],
                         [True, False, True])
        self.assertEqual([accepts(("endless", TURN_TEXT, "a", (5,)), ((), (0, 0))),
                          accepts(("endless", TURN_TEXT, "a", (5,)), ((), (0,)))], [True, False])

    def test_the_signature(self):
        self.assertEqual(list(inspect.signature(accepts).parameters), ["claim", "certificate"])

    def test_what_is_right(self):
        for claim, certificate in RIGHT:
            self.says(True, claim, certificate)
            self.says(True, twin(claim), twin(certificate))

    def test_each_certificate_for_its_claim_alone(self):
        for claim, certificate in RIGHT:
            for other, another in RIGHT:
                if (other, another) != (claim, certificate) and another != certificate:
                    self.says(False, claim, another)

    def test_claims_with_parts_left_out_and_put_in_twice(self):
        for claim, certificate in RIGHT:
            for at in range(len(claim)):
                self.says(False, claim[:at] + claim[at + 1:], certificate)
                self.says(False, claim[:at + 1] + claim[at:], certificate)
                self.says(False, (*claim[:at], None, *claim[at + 1:]), certificate)
                self.says(False, (*claim[:at], (claim[at],), *claim[at + 1:]), certificate)
            self.says(False, (*claim, ()), certificate)
            self.says(False, claim[::-1], certificate)
            for word in ("", "rank", "Ranks", "row", "dead", "falls", "none ", b"none"):
                self.says(False, (word, *claim[1:]), certificate)

    def test_lists_and_values_of_other_kinds(self):
        for claim, certificate in RIGHT:
            self.says(False, list(claim), certificate)
            self.says(False, claim, list(certificate))
            self.says(False, (claim[0], Program.read(claim[1]), *claim[2:]), certificate)
            for odd in (*odd_values(), "", "all", 77, -1, (7,), ((),), ((), (), ()), Odd(), (Odd(),), (Odd(), Odd())):
                self.says(False, odd, certificate)
                self.says(False, claim, odd)
                for at in range(len(claim)):
                    # With another point, or a greater number, a claim may be as right.
                    if at < 3:
                        self.says(False, (*claim[:at], odd, *claim[at + 1:]), certificate)
                for at in range(len(certificate)):
                    self.says(False, claim, (*certificate[:at], odd, *certificate[at + 1:]))

    def test_true_in_the_place_of_1(self):
        def changed(value, old, new):
            """The values with one such number in it another one."""
            if isinstance(value, tuple):
                for at, part in enumerate(value):
                    for other in changed(part, old, new):
                        yield (*value[:at], other, *value[at + 1:])
            elif type(value) is int and value == old:
                yield new

        many = 0
        for claim, certificate in RIGHT:
            for old, new in ((1, True), (0, False)):
                for other in changed(claim, old, new):
                    self.says(False, other, certificate)
                for other in changed(certificate, old, new):
                    many += 1
                    self.says(False, claim, other)
        self.assertGreater(many, 50)

    def test_texts_that_are_none(self):
        for claim, certificate in RIGHT:
            for text in (claim[1] + "\n", claim[1] + " ", claim[1].replace("\n", "\n\n", 1), claim[1].upper(), "", "vars x",
                         claim[1].encode()):
                self.says(False, (claim[0], text, *claim[2:]), certificate)

    def test_nothing_is_changed(self):
        for claim, certificate in RIGHT:
            shown = repr((claim, certificate))
            self.assertEqual([accepts(claim, certificate), accepts(claim, certificate), repr((claim, certificate))],
                             [True, True, shown])


class Rows(Checking):

    def test_the_number_of_ranks(self):
        for many in (-1, 0, 2, BIG, -BIG):
            self.says(False, ("ranks", DOWN_TEXT, many), DOWN_ROW)
        # A row may have more ranks than are needed.
        still = (1, ((0, 0),))
        longer = ((still, DOWN_ROW[0][0]), (("falls", 1, (((1, (0,), 0), (1, (0,), 0)), DOWN_ROW[1][0][2][0])),))
        self.says(True, ("ranks", DOWN_TEXT, 2), longer)
        self.says(False, ("ranks", DOWN_TEXT, 1), longer)
        self.says(True, ("ranks", DOWN_TEXT, 2), ((DOWN_ROW[0][0], still), DOWN_ROW[1]))

    def falls(self, rank, standing, falling):
        return (rank,), (("falls", 0, ((standing, falling),)),)

    def test_weights(self):
        rank = (2, ((3, 1),))
        # 3 x + 1 is 3 (x - 1) + 4; it becomes less by 3, which is 1 more than the 2 that is asked for.
        for standing, falling, right in (
                ((1, (3,), 4), (1, (0,), 1), True), ((2, (6,), 8), (5, (0,), 5), True), ((BIG, (3 * BIG,), 4 * BIG),
                                                                                         (1, (0,), 1), True),
                ((0, (0,), 0), (1, (0,), 1), False), ((1, (3,), 4), (0, (0,), 0), False), ((1, (3,), 3), (1, (0,), 1), False),
                ((1, (3,), 5), (1, (0,), 1), False), ((1, (2,), 4), (1, (0,), 1), False), ((1, (3,), 4), (1, (0,), 0), False),
                ((1, (3,), 4), (1, (0,), 2), False), ((1, (3,), 4), (1, (1,), 1), False), ((-1, (-3,), -4), (1, (0,), 1), False),
                ((1, (3, 0), 4), (1, (0,), 1), False), ((1, (), 4), (1, (0,), 1), False), ((1, (3,)), (1, (0,), 1), False),
                ((1, (3,), 4, 0), (1, (0,), 1), False), ((1, [3], 4), (1, (0,), 1), False), ((1, 3, 4), (1, (0,), 1), False)):
            self.says(right, ("ranks", DOWN_TEXT, 1), self.falls(rank, standing, falling))
        # By 3 it falls by at least 1, by 2 it does not: weights below 0 would be needed.
        for d, right in ((3, True), (4, False)):
            self.says(right, ("ranks", DOWN_TEXT, 1), self.falls((d, ((3, 1),)), (1, (3,), 4), (1, (0,), 3 - d)))

    def test_weights_below_0(self):
        free = Program(("x",), (), (("a", "a", ((1, 0), (-1, 5)), ((1, -1),)),))
        # x + 1 is at least 0: x and 1; but not by 2 x - (5 - x) and so on.
        for weights, right in (((1, (1, 0), 1), True), ((1, (2, 1), -4), False), ((1, (0, -1), 6), False),
                               ((6, (7, 1), 1), True)):
            self.says(right, ("ranks", free.text, 1), self.falls((1, ((1, 1),)), weights, (1, (0, 0), 0)))

    def test_ranks_that_are_none(self):
        papers = DOWN_ROW[1]
        for rank in ((0, ((1, 0),)), (-1, ((1, 0),)), (1, ((1, 0), (1, 0))), (1, ()), (1, ((1,),)), (1, ((1, 0, 0),)),
                     (1, (1, 0)), ((1, 0),), (1, ([1, 0],)), [1, ((1, 0),)], (1, ((1, 0),), 1), ()):
            self.says(False, ("ranks", DOWN_TEXT, 1), ((rank,), papers))

    def test_papers(self):
        row, papers = DOWN_ROW
        pairs = papers[0][2]
        for wrong in ((), (papers[0], papers[0]), ((),), (None,), (("falls", 0),), (("falls", 0, pairs, ()),),
                      (("fall", 0, pairs),), (("falls", 1, pairs),), (("falls", -1, pairs),), (("falls", 0, ()),),
                      (("falls", 0, pairs + pairs),), (("falls", 0, (pairs[0][:1],)),), (("falls", 0, (pairs[0] * 2,)),),
                      (("falls", 0, pairs[0]),), (("falls", 0, (pairs[0][::-1],)),), (("dead", pairs),), (("dead", 0, pairs),),
                      (("dead", (1,)),), (("dead", (0,)),), (("dead", ()),), ("dead",), "dead", (("falls", BIG, pairs),),
                      (("falls", "0", pairs),), ((Odd(), 0, pairs),), ((Odd(), (1,)),), ((("falls",), 0, pairs),)):
            self.says(False, ("ranks", DOWN_TEXT, 1), (row, wrong))

    def test_dead_branches(self):
        # The sum of -x - 1 and x is -1.
        for weights, right in (((1, 1), True), ((7, 7), True), ((BIG, BIG), True), ((1, 0), False), ((0, 1), False),
                               ((0, 0), False), ((2, 1), False), ((-1, -1), False), ((1, 1, 0), False), ((1,), False),
                               ([1, 1], False)):
            self.says(right, ("ranks", STOP_TEXT, 0), ((), (("dead", weights),)))
        self.says(True, ("ranks", STOP_TEXT, 1), (((1, ((0, 0),)),), (("dead", (1, 1)),)))
        # An open branch has no such paper, a number of 0 is not below 0, and one above 0 shows nothing.
        for test in ((1, 0), (0, 0), (0, 1)):
            text = x_program([("a", "a", (test,), ((1, 0),))]).text
            for number in (0, 1, 5):
                self.says(False, ("ranks", text, 0), ((), (("dead", (number,)),)))
        self.says(True, ("ranks", x_program([("a", "a", ((0, -1),), ((1, 0),))]).text, 0), ((), (("dead", (1,)),)))

    def test_a_dead_branch_may_fall(self):
        text = x_program([("a", "a", ((0, -1), (1, 0)), ((1, 1),))]).text
        # x stands by the second test; it becomes greater by 1, and 2 times the first test is the -2 that is asked for.
        self.says(True, ("ranks", text, 1), self.falls((1, ((1, 0),)), (1, (0, 1), 0), (1, (2, 0), 0)))

    def test_the_ranks_ahead_do_not_rise(self):
        row, papers = NEST_ROW
        self.says(False, ("ranks", NEST_TEXT, 2), (row[::-1], papers))
        self.says(False, ("ranks", NEST_TEXT, 2), (row, papers[::-1]))
        # Ahead of the last rank it is not asked to fall, at the last one it is.
        first, last = papers[0][2]
        for pairs, right in (((first, last), True), ((last, first), False), ((first, first), False), ((last, last), False)):
            self.says(right, ("ranks", NEST_TEXT, 2), (row, (("falls", 1, pairs), papers[1])))
        self.says(False, ("ranks", NEST_TEXT, 2), (row, (("falls", 0, (first,)), papers[1])))

    def test_places(self):
        # The form of the place is taken, and the target's behind the changes.
        rank = (1, ((2, 1), (2, 0)))
        stands, still, falls = (1, (2,), 2), (1, (), 0), (1, (0,), 0)
        papers = (("falls", 0, (((1, (2,), 2), (1, (0,), 0)),)), ("falls", 0, (((1, (2,), 1), (1, (0,), 0)),)))
        self.assertEqual(judge(TWO, (rank,)), ())
        self.says(True, ("ranks", TWO.text, 1), ((rank,), papers))
        self.says(False, ("ranks", TWO.text, 1), (((1, rank[1][::-1]),), papers))
        self.says(False, ("ranks", TWO.text, 1), ((rank,), papers[::-1]))
        self.assertEqual([stands, still, falls][2], papers[0][2][0][1])


class Bars(Checking):

    def test_what_each_test_says(self):
        said = x_program([("a", "a", ((1, -2),), ((1, 0),))], [("a", (-1, 5))])
        for part, right in (((0, 1, (2,), (0,)), True), ((0, 1, (5,), (0,)), True), ((0, 3, (7,), (0,)), True),
                            ((0, 1, (1,), (0,)), False), ((0, 1, (6,), (0,)), False), ((0, 3, (5,), (0,)), False),
                            ((0, 3, (16,), (0,)), False), ((0, 1, (3,), (1,)), False), ((0, 1, (3,), (-1,)), False),
                            ((0, 0, (0,), (0,)), False), ((0, -1, (-3,), (0,)), False), ((0, BIG, (3 * BIG,), (0,)), True)):
            self.says(right, ("none", said.text), (part,))

    def test_what_leaves_and_what_arrives(self):
        # x + 1 arrives where x left, so a way of 1 for each has to leave too.
        for w, u, t, right in ((1, 0, 1, True), (1, 0, 0, False), (1, 0, 2, False), (1, 7, 1, True), (2, 0, 1, False),
                               (2, 0, 2, True), (2, 1, 2, True), (1, -1, 1, False), (1, 0, -1, False), (0, 0, 0, False),
                               (BIG, BIG, BIG, True)):
            self.says(right, ("none", UP_TEXT), ((0, w, (u,), (t,)),))

    def test_the_weights_of_each_place(self):
        ring = x_program([("a", "b", (), ((1, 0),)), ("b", "c", (), ((1, 2),)), ("c", "a", (), ((1, -2),)),
                          ("a", "c", (), ((1, 2),))])
        for parts, right in ((((0, 1, (0,), (0,)), (1, 1, (0,), (0,)), (2, 1, (2,), (0,))), True),
                             (((2, 1, (2,), (0,)), (3, 1, (0,), (0,))), True),
                             (((0, 1, (0,), (0,)), (1, 1, (0,), (0,)), (2, 2, (4,), (0,)), (3, 1, (0,), (0,))), True),
                             (((0, 1, (0,), (0,)), (1, 1, (0,), (0,)), (2, 1, (4,), (0,)), (3, 1, (0,), (0,))), False),
                             (((0, 1, (0,), (0,)), (1, 1, (0,), (0,))), False),
                             (((0, 1, (0,), (0,)),), False),
                             (((0, 1, (0,), (0,)), (1, 1, (0,), (0,)), (2, 1, (1,), (0,))), False),
                             (((0, 1, (0,), (0,)), (1, 1, (5,), (0,)), (2, 1, (7,), (0,))), False),
                             (((0, 1, (0,), (5,)), (1, 1, (5,), (0,)), (2, 1, (7,), (0,))), False),
                             (((0, 1, (0,), (5,)), (1, 1, (0,), (0,)), (2, 1, (7,), (-5,))), True),
                             (((0, 1, (0,), (0,)), (1, 1, (-5,), (5,)), (2, 1, (-3,), (0,))), False)):
            self.says(right, ("none", ring.text), parts)

    def test_quadruples(self):
        some = x_program([("a", "a", (), ((1, 0),)), ("a", "a", (), ((1, 0),))])
        one, two = (0, 1, (0,), (0,)), (1, 2, (-4,), (0,))
        for bar, right in (((one, two), True), ((one,), True), ((two,), True), ((two, one), False), ((one, one), False),
                           ((one, two, two), False), ((), False), (one, False), (((2, 1, (0,), (0,)),), False),
                           (((-1, 1, (0,), (0,)),), False), (((BIG, 1, (0,), (0,)),), False), ((one[:3],), False),
                           (((*one, 0),), False), (((0, 1, (0, 0), (0,)),), False), (((0, 1, (0,), ()),), False),
                           (((0, 1, 0, (0,)),), False), (((0, 1, (0,), 0),), False), ((list(one),), False),
                           (((0, 1, [0], (0,)),), False), (((0, 1, (0,), (None,)),), False), ((one, None), False),
                           (((0, 0, (0,), (0,)),), False), ((one, (1, 0, (0,), (0,))), False), (((0, "1", (0,), (0,)),), False)):
            self.says(right, ("none", some.text), bar)

    def test_branches_that_are_not_open(self):
        # The algebra of the bar is right, but nothing holds u where the dead branch has no points.
        text = x_program([*DOWN.branches, ("a", "b", ((0, -1),), ((0, 0),))]).text
        program = Program.read(text)
        self.assertEqual(levels(program), ((0,),))
        self.says(False, ("fewest", text, 2), (((0, 1, (1,), (0,)), (1, 0, (-1,), (0,))),))
        self.says(False, ("none", text), (((0, 1, (1,), (0,)), (1, 0, (-1,), (0,)))))
        # Also where nothing depends on it.
        still = x_program([("a", "a", (), ((1, 0),)), ("a", "a", ((0, -1),), ((1, 0),)), ("a", "a", ((0, 0),), ((1, 0),))])
        for dead, right in ((1, False), (2, True)):
            self.says(right, ("fewest", still.text, 2), (((0, 1, (0,), (0,)), (dead, 0, (0,), (0,))),))

    def test_fewest(self):
        claim = ("fewest", NEST_TEXT, 2)
        for bars, right in (((NEST_BAR,), True), ((), False), (NEST_BAR, False), ((NEST_BAR, NEST_BAR), False), (((),), False),
                            ((((0, 0, (0, 0), (0, 0)),),), False), ((((0, 2, (3, 2), (0, 0)), (1, 0, (2, 0), (0, 0))),), True),
                            (([*NEST_BAR],), False), ((None,), False)):
            self.says(right, claim, bars)
        for many in (-1, 0, 1, 3, BIG):
            self.says(False, ("fewest", NEST_TEXT, many), (NEST_BAR,))
            self.says(False, ("fewest", NEST_TEXT, many), ())

    def test_the_branches_of_a_bar_behind_another_one(self):
        hands = next(program for program, _, steps, _ in LADDERS if len(steps) == 3)
        claim, (first, second) = certify_fewest(hands)
        self.assertEqual([len(first), len(second)], [3, 2])
        self.says(True, claim, (first, second))
        for bars in ((second, second), (first, first), (second, first), (first,), (first, second, second)):
            self.says(False, claim, bars)
        self.says(True, (*claim[:2], 2), (first,))
        # A branch with the weight 0 in the bar before it, though it is 0 there too.
        low = next(index for index, w, _, _ in first if w == 0)
        nothing = (0,) * len(hands.names)
        more = tuple(sorted((*second, (low, 0, nothing, nothing))))
        self.says(True, (*claim[:2], 2), (more,))
        self.says(False, claim, (first, more))
        # Without it the last one would show nothing.
        least = tuple((index, 0, nothing, nothing) for index, _, _, _ in second)
        self.says(False, claim, (first, least))

    def test_no_row_by_fewest(self):
        # There is no row at all, so there is none of fewer than two, three or more ranks.
        still = ((0, 1, (0,), (1,)),)
        for many in (2, 3, 9):
            self.says(True, ("fewest", UP_TEXT, many), (still,) * (many - 1))
            self.says(False, ("fewest", UP_TEXT, many), (still,) * many)

    def test_none_needs_all_weights_above_0(self):
        text = x_program([("a", "a", (), ((1, 0),)), *DOWN.branches]).text
        self.says(True, ("none", text), ((0, 1, (0,), (0,)),))
        self.says(False, ("none", text), ((0, 1, (0,), (0,)), (1, 0, (0,), (0,))))
        self.says(False, ("none", text), ((1, 0, (0,), (0,)),))
        self.says(False, ("none", text), ())


class Ends(Checking):

    def test_endless(self):
        for way, ring, right in (((), (0, 0), True), ((0,), (0, 0), True), ((0,) * 7, (0,) * 4, True), ((), (0,), False),
                                 ((), (), False), ((0, 0), (), False), ((), (0, 0, 0), False), ((), (0, 1), False),
                                 ((), (0, -1), False), ((1,), (0, 0), False), ([], (0, 0), False), ((), [0, 0], False),
                                 ((), (0, None), False), (None, (0, 0), False), ((), ((0, 0),), False), (0, (0, 0), False)):
            self.says(right, ("endless", TURN_TEXT, "a", (5,)), (way, ring))
            self.says(right, ("endless", TURN_TEXT, "a", (-BIG,)), (way, ring))
        self.says(True, ("endless", TURN_TEXT, "a", (0,)), ((), (0,)))
        for wrong in (((0, 0),), ((), (0, 0), ()), (), ((0, 0), ()), (0, 0)):
            self.says(False, ("endless", TURN_TEXT, "a", (5,)), wrong)

    def test_branches_that_cannot_be_taken(self):
        program = x_program([("a", "b", ((1, -3),), ((1, 0),)), ("b", "a", (), ((1, 0),)), ("b", "b", ((-1, 2),), ((1, 0),))])
        for point, right in ((3, True), (2, False), (-BIG, False), (BIG, True)):
            self.says(right, ("endless", program.text, "a", (point,)), ((), (0, 1)))
            self.says(right, ("endless", program.text, "b", (point,)), ((1,), (0, 1)))
            self.says(not right, ("endless", program.text, "b", (point,)), ((), (2,)))
            self.says(False, ("endless", program.text, "b", (point,)), ((), (0, 1)))
            self.says(False, ("endless", program.text, "a", (point,)), ((), (1, 0)))
        # The place comes again, but not the point; the point, but not the place.
        self.says(False, ("endless", UP_TEXT, "a", (5,)), ((), (0,)))
        self.says(False, ("endless", program.text, "a", (3,)), ((), (0,)))

    def test_sayings_are_not_looked_at(self):
        text = x_program([("a", "a", (), ((1, 0),))], [("a", (0, -1))]).text
        self.says(True, ("endless", text, "a", (5,)), ((), (0,)))

    def test_states(self):
        for word, more, certificate in (("endless", (), ((), (0, 0))), ("within", (8,), DOWN_ROW)):
            text = TURN_TEXT if word == "endless" else DOWN_TEXT
            for place, point, right in (("a", (5,), True), ("b", (5,), False), ("", (5,), False), (None, (5,), False),
                                        ("a", (), False), ("a", (5, 5), False), ("a", [5], False), ("a", 5, False),
                                        ("a", ("5",), False), ("a", (None,), False), (("a",), (5,), False), ("x", (5,), False)):
                self.says(right, (word, text, place, point, *more), certificate)

    def test_within(self):
        # The rank is x, so it is less than 8 at 7.
        for point, number, right in ((7, 8, True), (7, 7, False), (7, 9, True), (7, BIG, True), (7, -1, False), (7, 0, False),
                                     (-1, 0, True), (0, 0, False), (0, 1, True), (-BIG, 0, True), (-BIG, -1, False),
                                     (BIG, BIG, False), (BIG, BIG + 1, True)):
            self.says(right, ("within", DOWN_TEXT, "a", (point,), number), DOWN_ROW)
        # 5/2 is less than 3, and not less than 2.
        halves = (((2, ((2, -1),)),), (("falls", 0, (((1, (2,), 1), (1, (0,), 0)),)),))
        for point, number, right in ((3, 2, False), (3, 3, True), (7, 6, False), (7, 7, True), (0, 0, True)):
            self.says(right, ("within", DOWN_TEXT, "a", (point,), number), halves)

    def test_within_takes_one_rank(self):
        self.says(False, ("within", NEST_TEXT, "a", (1, 1), BIG), NEST_ROW)
        longer = ((DOWN_ROW[0][0], DOWN_ROW[0][0]), DOWN_ROW[1])
        self.says(True, ("ranks", DOWN_TEXT, 2), longer)
        self.says(False, ("within", DOWN_TEXT, "a", (7,), 8), longer)
        self.says(False, ("within", STOP_TEXT, "a", (7,), 8), ((), (("dead", (1, 1)),)))
        self.says(True, ("within", STOP_TEXT, "a", (7,), 1), (((1, ((0, 0),)),), (("dead", (1, 1)),)))

    def test_within_takes_the_form_of_the_place(self):
        rank = (1, ((2, 1), (2, 0)))
        papers = (("falls", 0, (((1, (2,), 2), (1, (0,), 0)),)), ("falls", 0, (((1, (2,), 1), (1, (0,), 0)),)))
        for place, number, right in (("b", 7, False), ("b", 8, True), ("a", 7, True), ("a", 6, False)):
            self.says(right, ("within", TWO.text, place, (3,), number), ((rank,), papers))


class Drawn(Checking):

    def is_true(self, claim):
        """Whether what a claim says is so, found in another way."""
        program = Program.read(claim[1])
        if claim[0] == "none":
            return not has_row(program)
        if claim[0] == "ranks":
            return has_row(program) and claim[2] >= fewest(program)
        if claim[0] == "fewest":
            return not has_row(program) or claim[2] <= fewest(program)
        if claim[0] == "within":
            most = min(claim[4], 12)
            return claim[4] > 12 or longest(program, claim[2], claim[3], most + 1) <= most
        try:
            return rounds(program, claim[2], claim[3]) == "endless"
        except TooMany:
            return True

    def certified(self, source, program):
        """Claims about a program with certificates."""
        pairs = [certify_row(program), certify_fewest(program)]
        for place in program.places:
            point = tuple(source.randint(-1, 5) for _ in program.names)
            pairs.append(certify_within(program, place, point))
            try:
                pairs.append(certify_endless(program, place, point))
            except TooMany:
                pass
        return [pair for pair in pairs if pair is not None]

    def test_changed_certificates_and_claims(self):
        source = random.Random(18)
        told = []
        for _ in range(150):
            for claim, certificate in self.certified(source, random_program(source)):
                self.says(True, claim, certificate)
                for _ in range(6):
                    other, another = claim, proving.mutated(source, certificate)
                    if source.random() < 0.3:
                        other, another = proving.mutated(source, claim), certificate
                    right = proving.accepts(other, another)
                    self.says(right, other, another)
                    if right:
                        self.assertTrue(self.is_true(other))
                    told.append((claim[0], right))
        for word in ("ranks", "none", "within", "endless"):
            self.assertGreater(min(told.count((word, True)), told.count((word, False))), 3, word)
        self.assertGreater(told.count(("fewest", False)), 10)

    def test_certificates_that_are_made_up(self):
        """Bars of small numbers for small programs: those that are accepted show what is true."""
        source = random.Random(19)
        found = 0
        for _ in range(3000):
            changes = [((source.choice((1, 1, -1, 0)), source.randint(-1, 1)),) for _ in range(2)]
            tests = [tuple((source.choice((1, -1, 0)), source.randint(-1, 1)) for _ in range(source.randint(0, 2)))
                     for _ in range(2)]
            program = x_program([("a", "a", tests[at], changes[at]) for at in range(2)])
            bar = tuple((at, source.randint(0, 2), (source.randint(-2, 2),), (source.randint(-1, 1),)) for at in range(2))
            for claim, certificate in ((("none", program.text), bar), (("none", program.text), bar[:1]),
                                       (("fewest", program.text, 2), (bar,)), (("fewest", program.text, 3), (bar, bar[:1]))):
                right = accepts(claim, certificate)
                self.assertIs(right, proving.accepts(claim, certificate))
                if right:
                    self.assertTrue(self.is_true(claim), (claim, certificate))
                    found += 1
        self.assertGreater(found, 50)

    def test_within_is_not_less_than_the_bound(self):
        source = random.Random(20)
        for _ in range(40):
            program = random_program(source)
            for place in program.places:
                point = tuple(source.randint(0, 9) for _ in program.names)
                pair = certify_within(program, place, point)
                if pair is not None:
                    amount = bound(program, place, point)
                    for number in range(amount[0] // amount[1] + 1)[-3:]:
                        self.says(False, (*pair[0][:4], number), pair[1])
