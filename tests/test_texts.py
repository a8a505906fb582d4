import itertools
import unittest

from fallranks.errors import InvalidText
from fallranks.programs import Program
from tests.samples import DOWN_TEXT, FULL_TEXT, NEST_TEXT, SAMPLES, UP_TEXT, odd_values, twin


class Case(unittest.TestCase):

    def refused(self, text):
        """Program.read raises InvalidText with this very value, by position and by name."""
        for call in (lambda: Program.read(text), lambda: Program.read(text=text)):
            with self.assertRaises(InvalidText) as caught:
                call()
            self.assertIs(type(caught.exception), InvalidText)
            self.assertIs(caught.exception.given, text)

    def all_refused(self, texts):
        for text in texts:
            with self.subTest(text=text):
                self.refused(text)


class Right(Case):

    def test_the_text_of_each_program_is_read(self):
        for parts, text in SAMPLES:
            for read in (Program.read(text), Program.read(text=text), Program.read(twin(text))):
                self.assertIs(type(read), Program)
                self.assertEqual((read.names, read.sayings, read.branches), parts)
                self.assertEqual(read, Program(*parts))
                self.assertEqual(read.text, text)
                self.assertEqual(read.places, Program(*parts).places)

    def test_numbers_at_the_edges(self):
        for number in ("0", "1", "-1", "9", "10", "-10", "999999", "1000000", "-1000000"):
            read = Program.read(f"vars x\nsay a {number} 0\nbranch a a\ntest 0 {number}\nthen {number} {number}")
            self.assertEqual(read.sayings, (("a", (int(number), 0)),))
            self.assertEqual(read.branches, (("a", "a", ((0, int(number)),), ((int(number), int(number)),)),))

    def test_many_programs(self):
        for places, many, tests, said in itertools.product(("aa", "ab", "ba"), (1, 2, 3), (0, 1, 3), (0, 1, 3)):
            form = tuple(range(-1, many))
            parts = (("x", "y", "z")[:many], ((places[1], form),) * said,
                     ((places[0], places[1], (form,) * tests, (form,) * many),) * (1 + tests))
            made = Program(*parts)
            read = Program.read(made.text)
            self.assertEqual((read.names, read.sayings, read.branches), parts)
            self.assertEqual(read, made)


class Wrong(Case):

    def test_no_strings(self):
        for value in (*odd_values(), 0, 1, (), ("vars x",), tuple(DOWN_TEXT.split("\n")), list(DOWN_TEXT),
                      DOWN_TEXT.encode()):
            self.refused(value)

    def test_texts_that_are_none(self):
        self.all_refused(["", " ", "\n", "vars", "vars ", "vars x", "vars x\n", "branch a a\nthen 1 0", "x", "say",
                          "test", "then", "branch", "then 1 0", "vars x\nthen 1 0", "vars x\ntest 1 0\nthen 1 0",
                          "vars x\nbranch a a", "vars x\nbranch a a\ntest 1 0", "vars x\nsay a 1 0",
                          "vars\nbranch a a\nthen 1 0", "vars \nbranch a a\nthen 1 0"])

    def test_a_newline_at_the_end_or_the_beginning_or_an_empty_line(self):
        for _, text in SAMPLES:
            lines = text.split("\n")
            self.all_refused([text + "\n", "\n" + text, text + "\n\n"])
            self.all_refused(["\n".join(lines[:at] + [""] + lines[at:]) for at in range(len(lines) + 1)])

    def test_other_ends_of_lines(self):
        for sign in ("\r", "\r\n", "\t", "\x0b", "\x0c", "\u2028", " ", ";", "; ", " / "):
            self.refused(DOWN_TEXT.replace("\n", sign))
        self.refused(DOWN_TEXT.replace("\n", "\r\n", 1))

    def test_each_sign_left_out(self):
        for _, text in SAMPLES:
            for at in range(len(text)):
                self.same_or_refused(text[:at] + text[at + 1:])

    def test_each_sign_twice(self):
        for _, text in SAMPLES:
            for at in range(len(text)):
                self.same_or_refused(text[:at] + text[at] + text[at:])

    def test_a_sign_put_in_or_exchanged(self):
        for text in (DOWN_TEXT, UP_TEXT, NEST_TEXT):
            for at in range(len(text) + 1):
                for sign in " -+0;\n1aA_.,":
                    self.same_or_refused(text[:at] + sign + text[at:])
                    self.same_or_refused(text[:at] + sign + text[at + 1:])

    def same_or_refused(self, text):
        """The text is that of the program that is read, as told by a reading of its own, or it is refused."""
        if plainly_right(text):
            self.assertEqual(Program.read(text).text, text)
        else:
            with self.subTest(text=text):
                self.refused(text)

    def test_each_word_left_out_twice_or_exchanged_with_the_next(self):
        for _, text in SAMPLES:
            words = text.replace("\n", " \n ").split(" ")
            for at, word in enumerate(words):
                self.same_or_refused(joined(words[:at] + words[at + 1:]))
                self.same_or_refused(joined(words[:at] + [word] + words[at:]))
                self.same_or_refused(joined(words[:at] + words[at + 1:at + 2] + [word] + words[at + 2:]))

    def test_each_line_left_out_twice_or_exchanged(self):
        for _, text in SAMPLES:
            lines = text.split("\n")
            for at, line in enumerate(lines):
                self.same_or_refused("\n".join(lines[:at] + lines[at + 1:]))
                self.same_or_refused("\n".join(lines[:at] + [line] + lines[at:]))
                for to in range(at):
                    other = list(lines)
                    other[at], other[to] = other[to], other[at]
                    self.same_or_refused("\n".join(other))

    def test_spaces(self):
        for line in DOWN_TEXT.split("\n"):
            self.all_refused([DOWN_TEXT.replace(line, new)
                              for new in (line + " ", " " + line, line.replace(" ", "  "), line.replace(" ", "\t"))])
        self.all_refused([NEST_TEXT.replace("; ", new) for new in (";", " ; ", ";  ", " ;", " ", "", ", ", "; ; ")])
        self.all_refused([NEST_TEXT + "; ", NEST_TEXT + ";", NEST_TEXT.replace("then ", "then ; ")])

    def test_numbers_that_are_not_written_so(self):
        for number in ("-0", "00", "01", "-01", "+1", "+0", "--1", "1.0", "1e3", "0x1", "1_000", "", "-", "a", "1000001",
                       "-1000001", "9999999", "0000001", "-0000001", "1" * 40, "-" + "1" * 99, "1" * 3000,
                       "\u0661", "\u00b2", "1-", "1 ", "None", "True"):
            self.all_refused([f"vars x\nsay a {number} 0\nbranch a a\nthen 1 0",
                              f"vars x\nsay a 0 {number}\nbranch a a\nthen 1 0",
                              f"vars x\nbranch a a\ntest {number} 0\nthen 1 0",
                              f"vars x\nbranch a a\nthen 0 {number}"])

    def test_numbers_that_python_does_not_read(self):
        # Python reads no strings of more than 4300 digits.
        for number in ("1" * 5000, "-" + "1" * 5000, "0" * 5000):
            self.refused(f"vars x\nbranch a a\nthen 0 {number}")

    def test_names(self):
        for name in ("A", "1", "abcdefghi", "x_y", "x,", "-", "1x"):
            self.all_refused([DOWN_TEXT.replace("vars x", f"vars {name}"), DOWN_TEXT.replace("a a", f"{name} a"),
                              DOWN_TEXT.replace("a a", f"a {name}"), UP_TEXT.replace("say a", f"say {name}")])
        self.all_refused([NEST_TEXT.replace("vars x y", new) for new in ("vars x x", "vars x", "vars x y z", "vars xy")])

    def test_more_than_there_can_be(self):
        branch = "\nbranch a a\nthen 1 0"
        self.assertEqual(len(Program.read("vars x" + branch * 5)), 5)
        self.assertEqual(len(Program.read("vars x" + "\nsay a 1 0" * 3 + branch).sayings), 3)
        self.all_refused(["vars x" + branch * 6, "vars x" + "\nsay a 1 0" * 4 + branch,
                          "vars x\nbranch a a" + "\ntest 1 0" * 4 + "\nthen 1 0", FULL_TEXT + branch,
                          "vars x y z w\nbranch a a\nthen 0 0 0 0 0; 0 0 0 0 0; 0 0 0 0 0; 0 0 0 0 0",
                          "vars x\nbranch a b\nthen 1 0\nbranch c d\nthen 1 0"])

    def test_lines_in_another_order(self):
        self.all_refused(["say a 1 0\nvars x\nbranch a a\nthen 1 1", "vars x\nbranch a a\nsay a 1 0\nthen 1 1",
                          "vars x\nbranch a a\nthen 1 1\nsay a 1 0", "vars x\nbranch a a\nthen 1 -1\ntest 1 -1",
                          "vars x\ntest 1 -1\nbranch a a\nthen 1 -1", "vars x\nbranch a a\nthen 1 1\nthen 1 1",
                          "vars x\nvars x\nbranch a a\nthen 1 1", "vars y\nvars x\nbranch a a\nthen 1 1",
                          "vars x\nbranch a a\nbranch a a\nthen 1 1", "vars x\nbranch a a\nthen 1 1\nbranch a a",
                          "vars x\nbranch a a\nthen 1 1\ntest 1 1", "vars x\nbranch a a\nthen 1 1\nvars x"])

    def test_lines_that_are_none(self):
        for line in ("Vars x", "varsx", "say", "say ", "say a", "test", "then", "# x", "x", "go a a", "say a 1 0 0",
                     "branch a", "branch a a a", "branch", "branch a  a"):
            lines = UP_TEXT.split("\n")
            self.all_refused(["\n".join(lines[:at] + [line] + lines[at:]) for at in range(len(lines) + 1)])
            self.all_refused(["\n".join(lines[:at] + [line] + lines[at + 1:]) for at in range(len(lines))])

    def test_the_same_call_again(self):
        self.assertEqual(Program.read(NEST_TEXT), Program.read(NEST_TEXT))
        self.refused("vars x")
        self.refused("vars x")


def joined(words):
    return " ".join(words).replace(" \n ", "\n")


def plainly_right(text):
    """Whether this is the text of a program: by a grammar, written apart from the package."""
    import re
    name = "[a-z][a-z0-9]{0,7}"
    number = "(0|-?[1-9][0-9]{0,5}|-?1000000)"
    head = re.match(f"vars ({name}(?: {name}){{0,2}})(?![^\n])", text)
    if not head:
        return False
    names = head.group(1).split(" ")
    form = f"{number}(?: {number}){{{len(names)}}}"
    whole = (f"(\nsay {name} {form}){{0,3}}"
             f"(\nbranch {name} {name}(\ntest {form}){{0,3}}\nthen {form}(; {form}){{{len(names) - 1}}}){{1,5}}")
    rest = text[head.end():]
    places = re.findall(f"\nsay ({name})", rest)
    for pair in re.findall(f"\nbranch ({name}) ({name})", rest):
        places.extend(pair)
    return len(set(names)) == len(names) and re.fullmatch(whole, rest) is not None and len(set(places)) <= 3
