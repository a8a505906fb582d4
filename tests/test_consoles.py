import inspect
import random
import unittest

from fallranks import consoles
from fallranks.bounds import bound
from fallranks.consoles import Console
from fallranks.errors import TooMany
from fallranks.keeping import unkept
from fallranks.levels import fewest, left, levels
from fallranks.walking import rounds
from tests.ladders import LADDERS, random_program, x_program
from tests.samples import DOWN, NEST, NEST_TEXT, SAMPLES, TWO, UP_TEXT, odd_values

BIG = 10 ** 40
DOWN_LINES = "vars x / branch a a / test 1 -1 / then 1 -1"


def lines_of(program):
    """The lines of a program as one line."""
    return program.text.replace("\n", " / ")


def console_with(**programs):
    """A console with these programs."""
    console = Console()
    for name, program in programs.items():
        console.do(f"program {name} {lines_of(program)}")
    return console


class Lines(unittest.TestCase):

    def does(self, console, *pairs):
        for line, answer in pairs:
            with self.subTest(line=line):
                self.assertEqual(console.do(line), answer)

    def test_examples(self):
        console = Console()
        self.assertEqual(
            [console.do("program d vars x / branch a a / test 1 -1 / then 1 -1"), console.do("ranks d"),
             console.do("levels d"), console.do("left d"), console.do("bound d a 7"), console.do("rounds d a 7"),
             console.do("bound d b 7")],
            ["put", "1", "0", "none", "6", "7", "no state"])
        self.assertEqual(
            [console.do("program u vars x / branch a a / then 1 1"), console.do("ranks u"), console.do("levels u"),
             console.do("left u"), console.do("rounds u a 0"), console.do("undo"), console.do("kept u"),
             console.do("kept d"), console.names],
            ["put", "no row", "none", "0", "too many", "undone", "no such program", "yes", ("d",)])

    def test_by_name(self):
        self.assertEqual([Console().do(line="undo"), Console().do(line="x")], ["nothing", "no such line"])

    def test_the_interface_stands_in_the_class(self):
        self.assertEqual(list(inspect.signature(Console).parameters), [])
        self.assertEqual(list(inspect.signature(vars(Console)["do"]).parameters), ["self", "line"])
        self.assertIsInstance(vars(Console)["names"], property)
        self.assertEqual(Console.__module__, consoles.__name__)

    def test_at_first(self):
        console = Console()
        self.assertEqual(console.names, ())
        self.does(console, ("undo", "nothing"), ("drop d", "no such program"), ("ranks d", "no such program"),
                  ("levels d", "no such program"), ("left d", "no such program"), ("kept d", "no such program"),
                  ("bound d a 1", "no such program"), ("rounds d a 1", "no such program"), ("", "no such line"))

    def test_each_program_that_there_is(self):
        console = Console()
        for at, (_, text) in enumerate(SAMPLES):
            self.does(console, (f"program p{at} " + text.replace("\n", " / "), "put"))
        self.assertEqual(console.names, tuple(f"p{at}" for at in range(len(SAMPLES))))
        self.does(console, ("levels p0", "1; 0"), ("left p0", "none"), ("levels p3", "0 1"), ("left p2", "0"))

    def test_names_ascending(self):
        console = console_with(b=DOWN, a1=DOWN, abcdefgh=DOWN, z=DOWN, a=DOWN)
        self.assertEqual(console.names, ("a", "a1", "abcdefgh", "b", "z"))

    def test_in_the_place_of_another_one(self):
        console = console_with(d=NEST)
        self.does(console, ("ranks d", "2"), ("program d " + DOWN_LINES, "put"), ("ranks d", "1"), ("undo", "undone"),
                  ("ranks d", "2"), ("undo", "undone"), ("ranks d", "no such program"), ("undo", "nothing"))

    def test_no_name(self):
        for name in ("A", "1", "d-", "d\n", "\nd", "d\tx", "abcdefghi", "aB", "_", "/", "'d'", "d,"):
            console = console_with(d=DOWN)
            self.does(console, (f"program {name} {DOWN_LINES}", "no name"), (f"program {name} nothing", "no name"),
                      (f"program {name}", "no such line"), (f"program {name} ", "no such line"),
                      (f"ranks {name}", "no such program"), (f"bound {name} a 1", "no such program"),
                      (f"rounds {name} 9 1", "no such program"), (f"drop {name}", "no such program"))
            self.assertEqual([console.names, console.do("undo"), console.do("undo")], [("d",), "undone", "nothing"])

    def test_no_program(self):
        console = console_with(d=NEST)
        for lines in ("x", " ", "/", " / ", "vars x", DOWN_LINES + " ", " " + DOWN_LINES, DOWN_LINES + " / ",
                      " / " + DOWN_LINES, DOWN_LINES.replace(" / ", "/"), DOWN_LINES.replace(" / ", "  / "),
                      DOWN_LINES.replace(" / ", " / / "), DOWN_LINES.replace(" / ", "\n"), DOWN_LINES + "\n", "\n",
                      DOWN_LINES.replace(" / branch", "\nbranch"), DOWN_LINES.replace(" / then", "\nthen"),
                      DOWN_LINES.replace("vars x", "vars  x"), DOWN_LINES.replace("1 -1", "01 -1"),
                      DOWN_LINES.replace("-1", "-0"), DOWN_LINES.replace("1 -1", "+1 -1"), "program d " + DOWN_LINES,
                      DOWN_LINES.upper(), lines_of(NEST) + " / say a 1 0 0", lines_of(NEST).replace("; ", ";"),
                      DOWN_LINES.replace("-1", "-1000001"), DOWN_LINES.replace("-1", "-" + "9" * 40)):
            self.does(console, ("program d " + lines, "no program"), ("program e " + lines, "no program"))
        self.does(console, ("ranks d", "2"), ("undo", "undone"), ("undo", "nothing"))

    def test_a_newline_within_a_line(self):
        console = Console()
        self.does(console, ("program d " + UP_TEXT, "no program"), ("program d " + NEST_TEXT, "no program"),
                  ("program\nd " + DOWN_LINES, "no such line"), ("program d\n" + DOWN_LINES, "no name"),
                  ("program d " + DOWN_LINES, "put"), ("ranks\nd", "no such line"), ("ranks d\n", "no such program"),
                  ("undo\n", "no such line"), ("bound d a\n7", "no such line"), ("bound d a 7\n", "no such line"),
                  ("bound d a\n 7", "no state"), ("rounds d\n a 7", "no such program"), ("rounds d a 7", "7"))

    def test_drop(self):
        console = console_with(d=DOWN, e=NEST)
        self.does(console, ("drop d", "dropped"), ("drop d", "no such program"), ("kept d", "no such program"))
        self.assertEqual(console.names, ("e",))
        self.does(console, ("undo", "undone"), ("kept d", "yes"), ("drop e", "dropped"), ("drop d", "dropped"))
        self.assertEqual(console.names, ())
        self.does(console, ("undo", "undone"), ("undo", "undone"), ("ranks e", "2"), ("ranks d", "1"))

    def test_undo_to_the_beginning_and_further(self):
        console = console_with(a=DOWN, b=NEST, c=TWO)
        self.does(console, ("drop b", "dropped"))
        told = []
        for _ in range(7):
            told.append((console.do("undo"), console.names))
        self.assertEqual(told, [("undone", ("a", "b", "c")), ("undone", ("a", "b")), ("undone", ("a",)), ("undone", ()),
                                ("nothing", ()), ("nothing", ()), ("nothing", ())])
        self.does(console, ("program a " + DOWN_LINES, "put"), ("undo", "undone"), ("undo", "nothing"))

    def test_asking_is_nothing_to_undo(self):
        console = console_with(d=DOWN)
        for line in ("ranks d", "levels d", "left d", "kept d", "bound d a 7", "rounds d a 7", "no", "drop x", "program d",
                     "program D x", "program d x", "bound d b 7"):
            console.do(line)
        self.does(console, ("undo", "undone"), ("undo", "nothing"))

    def test_the_same_put_again_counts(self):
        console = console_with(d=DOWN)
        self.does(console, ("program d " + DOWN_LINES, "put"), ("undo", "undone"), ("ranks d", "1"), ("undo", "undone"),
                  ("ranks d", "no such program"))

    def test_no_such_line(self):
        console = console_with(d=DOWN)
        right = ["ranks d", "levels d", "left d", "kept d", "drop d", "bound d a 7", "rounds d a 7", "undo"]
        for line in right:
            for wrong in (line + " ", " " + line, line.replace(" ", "  ", 1), line.upper(), line.capitalize(), line + " d",
                          line + " 1 a", line.split(" ")[0] + "d d", line.replace(" ", "\t")):
                if " " in wrong or wrong != line:
                    self.does(console, (wrong, "no such line"))
        for line in ("", " ", "  ", "program", "program ", "program d", "program d ", "program  d", "program  d x",
                     " program d x", "programs d x", "Program d x", "ranks", "ranks ", "levels", "left", "kept", "drop",
                     "drop ", "drop d d", "kept d yes", "bound", "bound d", "bound d a", "bound d a ", "bound  a 7",
                     "bound d  7", "bound d a  7", "bound d a 7 ", "bound d a 7  7", "bound a 7", "rounds d a", "rounds d a ",
                     "rounds d  a 7", "undo undo", "undo d", "names", "wish d row", "d", "7", "/", "quit", "help"):
            self.does(console, (line, "no such line"))
        self.does(console, ("ranks d", "1"), ("undo", "undone"), ("undo", "nothing"))

    def test_numbers(self):
        console = console_with(d=DOWN, n=NEST)
        for word in ("bound", "rounds"):
            for numbers in ("07", "00", "-0", "-07", "+7", "7.0", "7,", "0x7", "--7", "-", "7-", "7 08", "a", "7 a", "1_0",
                            "1e3", "(7)", "7 -0", "- 7", "7/1", "0 01"):
                for name in "dxn":
                    self.does(console, (f"{word} {name} a {numbers}", "no such line"))
        self.does(console, ("bound d a 0", "endless"), ("bound d a -7", "endless"), ("rounds d a -7", "0"),
                  ("rounds d a 0", "0"), ("bound d a " + str(BIG), str(BIG - 1)), ("rounds d a " + str(-BIG), "0"),
                  ("rounds d a " + str(BIG), "too many"), ("rounds n a 2 1", "6"), ("rounds n a -3 4", "4"))

    def test_no_state(self):
        console = console_with(d=DOWN, n=NEST, t=TWO)
        for word in ("bound", "rounds"):
            for state in ("b 7", "a 7 7", "A 7", "aa 7", "x 7", "a\n 7", "-1 7", "a 1 2 3", "/ 1", "a 7 " + str(BIG)):
                self.does(console, (f"{word} d {state}", "no state"), (f"{word} x {state}", "no such program"))
            self.does(console, (f"{word} n a 1", "no state"), (f"{word} n a 1 2 3", "no state"),
                      (f"{word} n b 1 2", "no state"), (f"{word} t c 1", "no state"))
        self.does(console, ("bound t a 3", "5"), ("bound t b 3", "6"), ("rounds t a 3", "6"), ("rounds t b 3", "7"))

    def test_bounds(self):
        halves = x_program([("a", "a", ((1, -1),), ((1, -2),))])
        console = console_with(h=halves, n=NEST, u=x_program([("a", "a", (), ((1, 1),))]))
        self.does(console, ("bound h a 14", "13/2"), ("bound h a 13", "6"), ("bound h a 2", "1/2"), ("bound h a 1", "0"),
                  ("bound h a 0", "endless"), ("bound n a 1 1", "no bound"), ("bound u a 1", "no bound"),
                  ("bound h a " + str(BIG), str(BIG - 1) + "/2"))

    def test_rounds(self):
        turn = x_program([("a", "a", (), ((-1, 0),))])
        console = console_with(d=DOWN, t=turn)
        self.does(console, ("rounds t a 5", "endless"), ("rounds d a 999", "999"), ("rounds d a 1000", "too many"))

    def test_kept_and_levels(self):
        unsaid = x_program(DOWN.branches, [("a", (1, -1))])
        stop = x_program([("a", "a", ((0, -1),), ((1, 1),))])
        console = console_with(k=unsaid, s=stop, n=NEST)
        self.does(console, ("kept k", "no"), ("kept n", "yes"), ("levels s", "none"), ("left s", "none"), ("ranks s", "0"))
        for at, (program, _, steps, rest) in enumerate(LADDERS):
            self.does(console, (f"program l{at} {lines_of(program)}", "put"),
                      (f"levels l{at}", "; ".join(" ".join(map(str, step)) for step in steps) or "none"),
                      (f"left l{at}", " ".join(map(str, rest)) or "none"),
                      (f"ranks l{at}", "no row" if rest else str(len(steps))))

    def test_random_ones(self):
        source = random.Random(16)
        for _ in range(60):
            program = random_program(source)
            console = console_with(p=program)
            point = tuple(source.choice((source.randint(0, 9), source.randint(-BIG, BIG))) for _ in program.names)
            place = source.choice(program.places)
            state = f"p {place} " + " ".join(map(str, point))
            amount = bound(program, place, point)
            if isinstance(amount, tuple):
                amount = f"{amount[0]}/{amount[1]}".removesuffix("/1")
            try:
                many = rounds(program, place, point)
            except TooMany:
                many = "too many"
            self.does(console, ("bound " + state, amount or "no bound"), ("rounds " + state, str(many)),
                      ("kept p", "no" if unkept(program) else "yes"),
                      ("ranks p", "no row" if left(program) else str(fewest(program))),
                      ("levels p", "; ".join(" ".join(map(str, step)) for step in levels(program)) or "none"))

    def test_consoles_do_not_know_of_each_other(self):
        one, other = Console(), Console()
        one.do("program d " + DOWN_LINES)
        self.assertEqual([one.names, other.names, other.do("undo"), one.do("undo")], [("d",), (), "nothing", "undone"])

    def test_equality_and_truth(self):
        console = Console()

        class Agreeing:
            def __eq__(self, other):
                return True

        for other in (Console(), console_with(d=DOWN), Agreeing(), "", (), 0, *odd_values()):
            self.assertIs(console == other, False)
            self.assertIs(console != other, True)
        self.assertIs(console == console, True)
        self.assertIs(bool(console), True)
