import itertools
import random
import unittest

from fallranks.bounds import bound
from fallranks.errors import InvalidChanges, InvalidText, InvalidWish, InvalidWishes
from fallranks.keeping import unkept
from fallranks.levels import fewest, has_row
from fallranks.mends import holds, mends
from fallranks.programs import Program
from tests.ladders import LADDERS, random_program, x_program
from tests.refusing import NO_WISHES, Refusing, wrong_values
from tests.samples import DOWN, NEST, STOP, TWO, UP, Odd, odd_values, twin

BIG = 10 ** 40
HALVES = x_program([("a", "a", ((1, -1),), ((1, -2),))])


class Holds(unittest.TestCase):

    def test_examples(self):
        self.assertEqual([holds(NEST, ("row",)), holds(NEST, ("ranks", 1)), holds(UP, ("row",)),
                          holds(DOWN, ("within", "a", (7,), 7)), holds(DOWN, ("within", "a", (7,), 6)),
                          holds(NEST, ("kept",))], [True, False, False, True, False, True])

    def told(self, program, wish, right):
        for call in (lambda: holds(program, wish), lambda: holds(wish=twin(wish), program=program)):
            self.assertIs(call(), right)

    def test_row(self):
        for program, _, _, rest in LADDERS:
            self.told(program, ("row",), rest == ())

    def test_ranks(self):
        for program, _, steps, rest in LADDERS:
            for many in (0, 1, 2, 3, 4, BIG):
                self.told(program, ("ranks", many), rest == () and len(steps) <= many)

    def test_kept(self):
        for program, _, _, _ in LADDERS:
            self.told(program, ("kept",), unkept(program) == ())
        self.told(x_program(DOWN.branches, [("a", (1, -1))]), ("kept",), False)

    def test_within_just_at_the_bound(self):
        # The bound is 13/2 at 14, and 6 at 13.
        for point, number, right in ((14, 6, False), (14, 7, True), (13, 5, False), (13, 6, False), (13, 7, True),
                                     (1, 0, False), (1, 1, True), (14, BIG, True), (14, -BIG, False), (13, 0, False)):
            self.told(HALVES, ("within", "a", (point,), number), right)
        for number, right in ((BIG - 1, False), (BIG, True), (BIG + 1, True)):
            self.told(DOWN, ("within", "a", (BIG,), number), right)

    def test_within_without_a_bound_that_is_a_number(self):
        for program, point in ((NEST, (1, 1)), (UP, (1,)), (STOP, (0,)), (DOWN, (0,)), (DOWN, (-BIG,))):
            for number in (-1, 0, 7, BIG):
                self.told(program, ("within", "a", point, number), False)

    def test_within_at_no_state_of_the_program(self):
        for place, point in (("b", (7,)), ("a", ()), ("a", (7, 7)), ("x", (7,)), ("abcdefgh", (1, 2, 3, 4, 5)), ("b", ())):
            self.told(DOWN, ("within", place, point, 7), False)
        self.told(TWO, ("within", "b", (3,), 7), True)
        self.told(TWO, ("within", "a", (3,), 6), True)
        self.told(TWO, ("within", "a", (3,), 5), False)

    def test_random_ones(self):
        source = random.Random(13)
        for _ in range(40):
            program = random_program(source)
            many = fewest(program)
            self.told(program, ("row",), has_row(program))
            for most in range(4):
                self.told(program, ("ranks", most), many is not None and many <= most)
            self.told(program, ("kept",), unkept(program) == ())
            point = tuple(source.randint(0, 9) for _ in program.names)
            told = bound(program, program.places[0], point)
            for number in (0, 1, 5, 10 ** 9):
                right = told is not None and told != "endless" and told[0] < number * told[1]
                self.told(program, ("within", program.places[0], point, number), right)


class Mends(unittest.TestCase):

    def test_examples(self):
        self.assertEqual(mends(UP, (("row",),), ((3, "then 1 -1"), (3, "then 1 0"), (2, "branch a b"), (3, "then 1 2"))),
                         ((0,), (2,)))

    def test_by_name(self):
        self.assertEqual(mends(changes=((3, "then 1 -1"),), wishes=(("row",),), program=UP), ((0,),))

    def test_what_needs_no_mending(self):
        for wishes in ((), (("row",),), (("row",), ("ranks", 2), ("kept",), ("row",))):
            self.assertEqual(mends(NEST, wishes, ()), ((),))
            self.assertEqual(mends(NEST, wishes, ((8, "then 1 0 -2; 1 1 0"), (0, ""), (3, "branch a b"))), ((),))
        self.assertEqual(mends(UP, (), ((3, "then 1 -1"),)), ((),))

    def test_what_cannot_be_mended(self):
        for changes in ((), ((3, "then 1 0"),), ((0, "vars y"), (2, "branch b b"))):
            self.assertEqual(mends(UP, (("row",),), changes), ())

    def test_changes_that_make_no_program(self):
        self.assertEqual(mends(UP, (("row",),), ((3, ""), (2, ""), (0, ""), (3, "then 1"), (2, "nothing"), (3, " "))), ())
        # Two lines have to go together, and it is not enough that one of them goes.
        either = x_program([*DOWN.branches, ("a", "a", (), ((1, 1),))])
        self.assertEqual(either.text.split("\n")[4:], ["branch a a", "then 1 1"])
        self.assertEqual(mends(either, (("row",),), ((4, ""), (5, ""), (5, "then 1 0"))), ((0, 1),))
        self.assertEqual(mends(either, (("row",),), ((5, ""), (2, ""), (4, ""))), ((0, 2),))

    def test_a_change_that_makes_a_program_of_one_that_is_none(self):
        # Another variable needs other forms everywhere.
        lines = ((0, "vars x y"), (1, "say a 1 0 0"), (3, "then 1 0 0; 0 1 -1"), (2, "branch a b"))
        self.assertEqual(mends(UP, (("row",),), lines), ((3,),))
        self.assertEqual(mends(UP, (("row",),), (*lines[:2], (3, "then 1 0 -1; 0 1 0"))), ((0, 1, 2),))

    def test_changes_of_one_line_are_not_in_one_set(self):
        both = Program(("x", "y"), (("a", (1, 0, 0)), ("a", (0, 1, 0))),
                       (("a", "a", (), ((1, 0, 1), (0, 1, 0))), ("a", "a", (), ((1, 0, 0), (0, 1, 1)))))
        self.assertEqual(both.text.split("\n")[3:], ["branch a a", "then 1 0 1; 0 1 0", "branch a a", "then 1 0 0; 0 1 1"])
        one, two = (4, "then 1 0 -1; 0 1 0"), (6, "then 1 0 0; 0 1 -1")
        self.assertEqual(mends(both, (("row",),), (one, two, one)), ((0, 1), (1, 2)))
        self.assertEqual(mends(both, (("row",),), (one, one)), ())
        self.assertEqual(mends(both, (("row",),), (two, one, two, one)), ((0, 1), (0, 3), (1, 2), (2, 3)))
        self.assertEqual(mends(UP, (("row",),), ((3, "then 1 -1"), (3, "then 1 -1"))), ((0,), (1,)))

    def test_all_wishes_at_once(self):
        changes = ((1, "say a 1 -1"), (3, "then 1 -1"), (2, "branch a b"), (3, "then 1 -7"))
        self.assertEqual(mends(UP, (("row",),), changes), ((1,), (2,), (3,)))
        self.assertEqual(mends(UP, (("row",), ("kept",)), changes), ((2,),))
        self.assertEqual(mends(UP, (("within", "a", (7,), 2),), changes), ((2,), (3,)))
        self.assertEqual(mends(UP, (("within", "a", (7,), 7), ("ranks", 1)), changes), ((2,), (3,), (0, 1)))
        self.assertEqual(mends(UP, (("row",), ("ranks", 0)), changes), ())

    def test_a_set_that_mends_though_a_greater_one_does_not(self):
        # The first change mends, but not with the second one; both with the third one mend again, being no least set.
        changes = ((3, "then 1 -1"), (1, "say a 0 0"), (2, "branch a b"))
        self.assertEqual(mends(UP, (("row",),), changes), ((0,), (2,)))
        self.assertEqual([mends(UP, (("row",),), changes[:2]), mends(UP, (("row",),), changes[1:2])], [((0,),), ()])
        self.assertIs(holds(UP.changed(changes[:2]), ("row",)), False)
        # A saying that never holds makes the branch dead; from elsewhere it is not.
        self.assertEqual(mends(UP, (("kept",), ("ranks", 0)), ((1, "say a 0 -1"), (2, "branch b b"))), ((0,),))
        self.assertEqual(mends(UP, (("kept",), ("ranks", 0)), ((1, "say b 0 -1"), (2, "branch b b"))), ((0, 1),))

    def test_the_empty_string_and_the_same_line(self):
        self.assertEqual(mends(UP, (("row",),), ((1, ""), (3, "then 1 1"), (3, "then 1 -1"))), ((2,),))
        self.assertEqual(mends(x_program([("a", "b", (), ((1, 0),))], [("b", (1, 0))]), (("kept",),), ((1, ""),)), ((0,),))

    def test_the_order(self):
        program = x_program([("a", "a", (), ((1, 1),)), ("b", "b", (), ((1, 1),))])
        self.assertEqual(program.text.split("\n")[1:], ["branch a a", "then 1 1", "branch b b", "then 1 1"])
        changes = ((3, "branch b c"), (4, "then 0 0"), (1, "branch a c"), (3, "branch b a"), (1, "branch a b"))
        self.assertEqual(mends(program, (("row",),), changes), ((0, 2), (0, 4), (2, 3)))
        some = ((3, "branch b a"), (1, "branch c a"), (3, "branch c b"), (1, "branch a c"))
        self.assertEqual(mends(program, (("row",),), some), ((0, 1), (0, 3), (1, 2), (2, 3)))

    def test_six_changes(self):
        branches = [(place, place, (), ((1, 1),)) for place in "aaabb"]
        program = x_program(branches)
        lines = program.text.split("\n")
        changes = tuple((at, "branch a c" if line.endswith("a") else "branch b c")
                        for at, line in enumerate(lines) if line.startswith("branch"))
        self.assertEqual(mends(program, (("row",),), changes), ((0, 1, 2, 3, 4),))
        self.assertEqual(mends(program, (("row",),), (*changes, changes[0])), ((0, 1, 2, 3, 4), (1, 2, 3, 4, 5)))
        self.assertEqual(mends(UP, (("row",),), ((3, "then 1 -1"),) * 6), tuple((at,) for at in range(6)))

    def plainly(self, program, wishes, changes):
        """All least sets by their definition: each set is looked at, and all its parts."""
        lines = program.text.split("\n")
        mending = []
        for size in range(len(changes) + 1):
            for some in itertools.combinations(range(len(changes)), size):
                changed = dict(enumerate(lines))
                changed.update(changes[at] for at in some)
                if len({changes[at][0] for at in some}) < size:
                    continue
                try:
                    other = Program.read("\n".join(line for line in changed.values() if line != ""))
                except InvalidText:
                    continue
                if all(holds(other, wish) for wish in wishes):
                    mending.append(some)
        return tuple(some for some in mending if not any(set(other) < set(some) for other in mending))

    def test_random_ones(self):
        source = random.Random(14)
        kinds = []
        while len(kinds) < 80:
            loops = [(place, place, (), ((1, source.choice((0, 1))),)) for place in source.choice(("ab", "abc", "aab"))]
            program = random_program(source) if source.random() < 0.5 else x_program(loops)
            wishes = source.choice(((("row",),), (("kept",),), (("row",), ("kept",)), (("ranks", 1),),
                                    (("within", "a", (5,) * len(program.names), 9),)))
            lines = program.text.split("\n")
            changes = []
            for _ in range(source.randint(0, 6)):
                at = source.randrange(len(lines))
                numbers = lines[at].replace("-1", "0") if source.random() < 0.5 else lines[at].replace(" 0 ", " 1 ")
                other = numbers.replace("a a", "a d").replace("b b", "b d").replace("c c", "a b")
                changes.append((at, source.choice((numbers, "", source.choice(lines), other, other))))
            found = mends(program, wishes, tuple(changes))
            self.assertEqual(found, self.plainly(program, wishes, changes), (program.text, wishes, changes))
            if found != ((),):
                kinds.append(max(map(len, found), default=0))
        self.assertEqual(sorted(set(kinds))[:3], [0, 1, 2])

    def test_the_same_again(self):
        text = UP.text
        changes = ((3, "then 1 -1"), (3, "then 1 0"))
        again = Program(*twin((UP.names, UP.sayings, UP.branches)))
        self.assertEqual([mends(UP, (("row",),), changes), mends(again, twin((("row",),)), twin(changes)),
                          mends(UP, (("row",),), changes)], [((0,),)] * 3)
        self.assertEqual([UP.text, changes], [text, ((3, "then 1 -1"), (3, "then 1 0"))])


class Wrong(Refusing):

    names = ("program", "wishes", "changes")

    def test_each_argument_and_their_order(self):
        self.refuses_all(holds, ("program", "wish"), (NEST, ("row",)))
        self.refuses_all(mends, self.names, (NEST, (("row",),), ((3, "branch a b"),)))

    def test_wishes_of_other_kinds(self):
        for wrong in NO_WISHES:
            self.refused(holds, ("program", "wish"), (DOWN, wrong), InvalidWish, wrong)

    def wishes(self, told, wishes, changes=()):
        self.refused(mends, self.names, (UP, wishes, changes), InvalidWishes, told)

    def changes(self, told, changes, wishes=(("row",),)):
        self.refused(mends, self.names, (UP, wishes, changes), InvalidChanges, told)

    def test_the_first_of_the_wishes_that_is_none(self):
        for wrong in (*NO_WISHES, *wrong_values("wish")):
            self.wishes(0, (wrong,))
            self.wishes(1, (("row",), wrong, wrong), [])
            self.wishes(30, (("kept",),) * 30 + (wrong, Odd()), None)

    def test_what_is_no_tuple(self):
        for wrong in (*odd_values(), "row", 0, 1, [("row",)], {("row",): 1}):
            self.wishes(None, wrong, wrong)
            self.changes(None, wrong)
        self.wishes(0, ("row",))

    def test_the_first_of_the_changes_that_is_none(self):
        lines = len(UP.text.split("\n"))
        for wrong in (*odd_values(), 0, "", "a", (), (0,), (0, "a", "a"), [0, "a"], (-1, "a"), (lines, "a"), (BIG, "a"),
                      (True, "a"), (False, ""), (None, "a"), ("0", "a"), (0, 0), (0, None), (0, b"a"), (0, ("a",)),
                      (0, "a\nb"), (0, "\n"), ("a", 0), ((0,), "a"), (0, Odd()), (Odd(), "a")):
            self.changes(0, (wrong,))
            self.changes(0, (wrong, wrong))
            self.changes(2, ((0, "a"), (0, "a"), wrong, (0, "a"), Odd(), 1, 2, 3))
            self.changes(5, ((0, "a"),) * 5 + (wrong, wrong))

    def test_more_than_six(self):
        right = (lines_changed for lines_changed in ((3, "then 1 -1"), (0, "x"), (1, ""), (2, "x"), (3, ""), (3, "y")))
        right = tuple(right)
        self.assertEqual(mends(UP, (("row",),), right), ((0,),))
        for more in ((3, "then 1 -1"), Odd(), None, (9, "a")):
            self.changes(6, (*right, more))
            self.changes(6, (*right, more, more))
            self.changes(4, (*right[:4], None, *right[4:], more))
        self.changes(6, ((0, "a"),) * 7)

    def test_the_last_line(self):
        self.assertEqual(mends(UP, (), ((3, "x"),)), ((),))
        self.changes(0, ((4, "x"),))
        self.refused(mends, self.names, (NEST, (), ((9, ""),)), InvalidChanges, 0)
