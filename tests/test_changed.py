import itertools
import unittest

from fallranks.errors import InvalidChanges, InvalidText
from fallranks.programs import Program
from tests.samples import DOWN_PARTS, DOWN_TEXT, NEST_PARTS, NEST_TEXT, SAMPLES, UP_PARTS, Odd, odd_values


class Right(unittest.TestCase):

    def test_no_changes(self):
        for parts, text in SAMPLES:
            made = Program(*parts)
            self.assertEqual(made.changed(()), made)
            self.assertEqual(made.changed(changes=()).text, text)

    def test_one_line(self):
        nest = Program(*NEST_PARTS)
        lines = NEST_TEXT.split("\n")
        for at, new in ((0, "vars u v"), (1, "say a 7 7 7"), (3, "branch b a"), (4, "test 0 0 0"), (8, "then 0 0 0; 0 0 0")):
            text = "\n".join(lines[:at] + [new] + lines[at + 1:])
            self.assertEqual(nest.changed(((at, new),)).text, text)
            self.assertIs(type(nest.changed(changes=((at, new),))), Program)

    def test_the_same_line_anew(self):
        nest = Program(*NEST_PARTS)
        lines = NEST_TEXT.split("\n")
        self.assertEqual(nest.changed(tuple(enumerate(lines))), nest)
        self.assertEqual(nest.changed(tuple(reversed(list(enumerate(lines))))), nest)

    def test_several_at_once_in_any_order(self):
        down = Program(*DOWN_PARTS)
        changes = ((0, "vars y"), (2, ""), (3, "then 1 -2"))
        for some in itertools.permutations(changes):
            self.assertEqual(down.changed(some).text, "vars y\nbranch a a\nthen 1 -2")

    def test_lines_taken_out_do_not_shift_the_others(self):
        nest = Program(*NEST_PARTS)
        changes = ((1, ""), (2, ""), (4, ""), (7, ""), (8, "then 2 0 0; 0 2 0"))
        for some in (changes, changes[::-1]):
            self.assertEqual(nest.changed(some).text,
                             "vars x y\nbranch a a\nthen 1 0 0; 0 1 -1\nbranch a a\nthen 2 0 0; 0 2 0")

    def test_what_is_no_program_by_one_change_alone(self):
        nest = Program(*NEST_PARTS)
        self.assertEqual(nest.changed(((3, ""), (4, ""), (5, ""))).text,
                         "vars x y\nsay a 1 0 0\nsay a 0 1 0\nbranch a a\ntest 1 0 -1\nthen 1 0 -1; 1 1 0")
        up = Program(*UP_PARTS)
        self.assertEqual(up.changed(((0, "vars x y"), (1, ""), (3, "then 1 0 0; 0 1 0"))).names, ("x", "y"))

    def test_exchanged_lines(self):
        down = Program(*DOWN_PARTS)
        self.assertEqual(down.changed(((2, "then 1 -1"), (3, ""))).text, "vars x\nbranch a a\nthen 1 -1")

    def test_the_program_stays_as_it_is(self):
        down = Program(*DOWN_PARTS)
        changes = ((2, ""), (3, "then 1 -2"))
        first = down.changed(changes)
        self.assertEqual(down.changed(changes), first)
        self.assertEqual(changes, ((2, ""), (3, "then 1 -2")))
        self.assertEqual((down.names, down.sayings, down.branches), DOWN_PARTS)
        self.assertEqual(down.text, DOWN_TEXT)


class Wrong(unittest.TestCase):

    def refused(self, index, changes):
        down = Program(*DOWN_PARTS)
        for call in (lambda: down.changed(changes), lambda: down.changed(changes=changes)):
            with self.subTest(index=index), self.assertRaises(InvalidChanges) as caught:
                call()
            self.assertEqual(caught.exception.index, index)
            self.assertNotIsInstance(caught.exception.index, bool)
        self.assertEqual(down.text, DOWN_TEXT)

    def test_no_tuple(self):
        for changes in (*odd_values(), [(2, "")], 0, 1, "", "ab", {2: ""}):
            self.refused(None, changes)

    def test_no_pairs(self):
        for wrong in (*odd_values(), 1, "", "ab", (), (2,), (2, "", ""), [2, ""], ("", 2)):
            self.refused(0, (wrong,))
            self.refused(1, ((3, "then 1 -2"), wrong, (2, "")))

    def test_no_index_of_a_line(self):
        for wrong in (*odd_values(), -1, -4, 4, 5, 10 ** 40, -(10 ** 40), "2", "", (2,)):
            self.refused(0, ((wrong, ""),))
            self.refused(1, ((2, ""), (wrong, "")))

    def test_what_is_no_string_or_has_a_newline(self):
        for wrong in (*odd_values(), 0, 1, (), ("",), "\n", "test 1 0\n", "\ntest 1 0", "test 1 0\ntest 1 0"):
            self.refused(0, ((2, wrong),))
            self.refused(1, ((3, "then 1 -2"), (2, wrong)))

    def test_one_line_twice(self):
        self.refused(1, ((2, ""), (2, "")))
        self.refused(1, ((2, ""), (2, "test 1 0")))
        self.refused(2, ((2, ""), (3, "then 1 0"), (2, "test 1 0"), (3, "")))
        self.refused(1, ((0, "vars x"), (0, "vars x"), Odd()))

    def test_the_first_one_is_told(self):
        self.refused(1, ((2, ""), Odd(), (2, "")))
        self.refused(1, ((2, ""), (2, ""), Odd()))

    def no_text(self, parts, changes, text):
        made = Program(*parts)
        with self.subTest(text=text), self.assertRaises(InvalidText) as caught:
            made.changed(changes)
        self.assertEqual(caught.exception.given, text)
        self.assertEqual(made, Program(*parts))

    def test_the_changed_text_is_no_text_of_a_program(self):
        self.no_text(DOWN_PARTS, ((0, ""),), "branch a a\ntest 1 -1\nthen 1 -1")
        self.no_text(DOWN_PARTS, ((3, ""),), "vars x\nbranch a a\ntest 1 -1")
        self.no_text(DOWN_PARTS, ((3, "then 1 -01"),), "vars x\nbranch a a\ntest 1 -1\nthen 1 -01")
        self.no_text(DOWN_PARTS, ((2, " "),), "vars x\nbranch a a\n \nthen 1 -1")
        self.no_text(DOWN_PARTS, ((1, "branch A a"),), "vars x\nbranch A a\ntest 1 -1\nthen 1 -1")
        self.no_text(DOWN_PARTS, ((3, "test 1 -1"), (2, "then 1 -1")), "vars x\nbranch a a\nthen 1 -1\ntest 1 -1")
        self.no_text(UP_PARTS, ((1, ""), (0, "vars x y")), "vars x y\nbranch a a\nthen 1 1")

    def test_all_lines_taken_out(self):
        self.no_text(DOWN_PARTS, ((0, ""), (1, ""), (2, ""), (3, "")), "")

    def test_changes_ahead_of_the_text(self):
        self.refused(1, ((0, ""), Odd()))
        self.refused(1, ((0, "nothing"), (0, "vars x")))
