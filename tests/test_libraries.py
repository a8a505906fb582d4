import inspect
import random
import unittest

from fallranks import libraries
from fallranks.errors import (Broken, InUse, InvalidIndex, InvalidName, InvalidWish, NothingToUndo, NotProgram,
                              UnknownName)
from fallranks.libraries import Library
from fallranks.mends import holds
from fallranks.programs import Program
from tests.ladders import x_program
from tests.refusing import NO_WISHES, Refusing, wrong_values
from tests.samples import DOWN, NEST, NEST_TEXT, STOP, TWO, UP, Odd, odd_values, twin

BIG = 10 ** 40
NO_NAMES = ["", "A", "1", "a-", "a ", " a", "a\n", "abcdefghi", "aB", b"a", 0, 1, BIG, ("a",), ["a"], ()]


def told(library):
    """All that a library tells."""
    return (library.names, library.wishes, library.changes, len(library),
            tuple(library[name] for name in library.names))


def library_with(*wishes, **programs):
    """A library with these programs, and these wishes, each with its name in front."""
    library = Library()
    for name, program in programs.items():
        library[name] = program
    for name, *wish in wishes:
        library.wish(name, tuple(wish))
    return library


class Failed(Exception):
    """What the blocks of the tests raise."""


class Asking(unittest.TestCase):
    """What the tests of libraries have in common."""

    def raises(self, error, given, call):
        """The call raises this error with this attribute."""
        with self.assertRaises(error) as caught:
            call()
        self.assertIs(type(caught.exception), error)
        if isinstance(given, int) and error in (Broken, InUse):
            self.assertEqual(vars(caught.exception), {"index": given})
        else:
            self.assertEqual(list(vars(caught.exception)), ["given"])
            self.assertIs(caught.exception.given, given)

    def put(self, library, name, program):
        library[name] = program


class Keeping(Asking):

    def test_examples(self):
        library = Library()
        library["all"] = NEST
        self.assertIsNone(library.wish("all", ("row",)))
        self.assertEqual([library.names, library.wishes, library.changes, "all" in library],
                         [("all",), (("all", ("row",)),), 2, True])
        self.raises(Broken, 0, lambda: self.put(library, "all", UP))

    def test_by_name(self):
        library = library_with(a=NEST)
        self.assertEqual([library.wish(wish=("row",), name="a"), library.wish("a", wish=("kept",)),
                          library.lift(index=0), library.tried(action=len), library.lift(index=0),
                          library.remove(name="a"), library.names], [None, None, None, 1, None, None, ()])

    def test_the_interface_stands_in_the_class(self):
        for name in ("names", "wishes", "changes"):
            self.assertIsInstance(vars(Library)[name], property)
        for name, parameters in (("remove", ["self", "name"]), ("wish", ["self", "name", "wish"]),
                                 ("lift", ["self", "index"]), ("undo", ["self"]), ("trial", ["self"]),
                                 ("tried", ["self", "action"])):
            self.assertEqual(list(inspect.signature(vars(Library)[name]).parameters), parameters)
        for name in ("__setitem__", "__getitem__", "__contains__", "__len__"):
            self.assertIn(name, vars(Library))
        self.assertEqual([list(inspect.signature(Library).parameters), Library.__module__], [[], libraries.__name__])

    def test_at_first(self):
        self.assertEqual(told(Library()), ((), (), 0, 0, ()))
        self.assertIs(bool(Library()), True)
        self.assertRaises(NothingToUndo, Library().undo)

    def test_putting_and_getting(self):
        library = library_with(b=NEST, a=DOWN, abcdefgh=UP, a1=TWO)
        self.assertEqual([library.names, len(library), library.changes], [("a", "a1", "abcdefgh", "b"), 4, 4])
        for name, program in (("b", NEST), ("a", DOWN), ("abcdefgh", UP), ("a1", TWO)):
            self.assertIs(library[name], program)
            self.assertIs(library[twin(name)], program)
        library["b"] = STOP
        self.assertEqual([library["b"], library.names, library.changes], [STOP, ("a", "a1", "abcdefgh", "b"), 5])

    def test_in(self):
        library = library_with(a=NEST, b=DOWN)
        for value, right in (("a", True), ("b", True), ("c", False), ("ab", False), ("", False), ("A", False)):
            self.assertIs(value in library, right)
        for value in (*odd_values(), *NO_NAMES, Odd(), NEST, NEST_TEXT, [], {}, ([],), 1):
            self.assertIs(value in library, False)
            self.assertIs(value not in library, True)

    def test_always_true(self):
        library = library_with(a=NEST)
        library.remove("a")
        self.assertEqual([bool(library), len(library)], [True, 0])

    def test_equality(self):
        library = library_with(a=NEST)

        class Agreeing:
            _history = library._history

            def __eq__(self, other):
                return True

        for other in (library_with(a=NEST), Library(), Agreeing(), NEST, "a", ("a",), {"a": NEST}, *odd_values()):
            self.assertIs(library == other, False)
            self.assertIs(library != other, True)
        self.assertIs(library == library, True)
        self.assertIs(Library() == Library(), False)

    def test_remove(self):
        library = library_with(a=NEST, b=DOWN)
        self.assertIsNone(library.remove("a"))
        self.assertEqual([library.names, library.changes, "a" in library], [("b",), 3, False])
        self.raises(UnknownName, "a", lambda: library["a"])
        self.raises(UnknownName, "a", lambda: library.remove("a"))
        library["a"] = UP
        self.assertIs(library["a"], UP)

    def test_a_name_in_use(self):
        library = library_with(("b", "row"), ("a", "kept"), ("a", "row"), ("b", "kept"), a=NEST, b=DOWN, c=UP)
        before = told(library)
        self.raises(InUse, 1, lambda: library.remove("a"))
        self.raises(InUse, 0, lambda: library.remove("b"))
        self.assertEqual(told(library), before)
        library.remove("c")
        library.lift(1)
        self.raises(InUse, 1, lambda: library.remove("a"))
        library.lift(1)
        library.remove("a")
        self.assertEqual([library.names, library.wishes], [("b",), (("b", ("row",)), ("b", ("kept",)))])

    def test_wishes(self):
        library = library_with(a=NEST, b=DOWN)
        wishes = (("b", ("within", "a", (7,), 7)), ("a", ("ranks", 2)), ("a", ("row",)), ("b", ("kept",)), ("a", ("row",)))
        for at, pair in enumerate(wishes):
            self.assertIsNone(library.wish(*pair))
            self.assertEqual([library.wishes, library.changes], [wishes[:at + 1], at + 3])
        for (name, wish), (_, passed) in zip(library.wishes, wishes):
            self.assertIs(wish, passed)

    def test_a_wish_that_does_not_hold(self):
        library = library_with(("a", "row"), a=NEST, u=UP)
        before = told(library)
        for name, wish in (("u", ("row",)), ("a", ("ranks", 1)), ("u", ("ranks", BIG)), ("a", ("within", "a", (1, 1), BIG)),
                           ("a", ("within", "b", (1, 1), 3))):
            self.raises(Broken, 1, lambda: library.wish(name, wish))
        self.assertEqual(told(library), before)
        library.wish("u", ("kept",))
        self.raises(Broken, 2, lambda: library.wish("u", ("row",)))

    def test_a_program_for_which_a_wish_does_not_hold(self):
        library = library_with(("b", "row"), ("a", "ranks", 2), ("b", "kept"), ("a", "kept"), a=NEST, b=NEST)
        unkept = NEST.changed(((8, "then 1 0 -2; 1 1 0"),))
        before = told(library)
        self.raises(Broken, 1, lambda: self.put(library, "a", UP))
        self.raises(Broken, 0, lambda: self.put(library, "b", UP))
        self.raises(Broken, 3, lambda: self.put(library, "a", unkept))
        self.raises(Broken, 2, lambda: self.put(library, "b", unkept))
        self.assertEqual(told(library), before)
        for name in ("c", "d"):
            library[name] = UP
        library["a"] = DOWN
        self.assertEqual([library["a"], library.changes], [DOWN, before[2] + 3])
        library.lift(0)
        library["b"] = UP
        self.raises(Broken, 0, lambda: self.put(library, "a", UP))

    def test_within(self):
        library = library_with(("d", "within", "a", (BIG,), BIG), d=DOWN)
        self.raises(Broken, 0, lambda: self.put(library, "d", x_program([("a", "a", ((1, 0),), ((1, -1),))])))
        library["d"] = x_program([("a", "a", ((1, -1),), ((1, -2),))])
        self.raises(Broken, 1, lambda: library.wish("d", ("within", "a", (14,), 6)))
        library.wish("d", ("within", "a", (14,), 7))

    def test_lift(self):
        library = library_with(("a", "row"), ("a", "kept"), ("a", "ranks", 2), a=NEST)
        for index, rest in ((1, (("a", ("row",)), ("a", ("ranks", 2)))), (1, (("a", ("row",)),)), (0, ())):
            self.assertIsNone(library.lift(index))
            self.assertEqual(library.wishes, rest)
        self.assertEqual(library.changes, 7)

    def test_undo_of_each_change(self):
        library = library_with(("a", "row"), a=NEST)
        library["a"] = DOWN
        library["b"] = UP
        library.remove("b")
        library.lift(0)
        rows = []
        while library.changes:
            rows.append((library.undo(), library.names, library.wishes, [library[name] for name in library.names]))
        row = (("a", ("row",)),)
        self.assertEqual(rows, [(None, ("a",), row, [DOWN]), (None, ("a", "b"), row, [DOWN, UP]), (None, ("a",), row, [DOWN]),
                                (None, ("a",), row, [NEST]), (None, ("a",), (), [NEST]), (None, (), (), [])])
        for _ in range(2):
            self.assertRaises(NothingToUndo, library.undo)
        library["c"] = UP
        self.assertEqual([library.changes, library.undo(), library.names], [1, None, ()])

    def test_changes_after_which_nothing_is_different_count(self):
        library = library_with(("a", "row"), ("a", "row"), a=NEST)
        library["a"] = NEST
        self.assertEqual([library.changes, library.undo(), library.changes, library["a"]], [4, None, 3, NEST])

    def test_what_is_not_a_change(self):
        library = library_with(("a", "row"), a=NEST)
        before = told(library)
        for call in (lambda: self.put(library, "a", UP), lambda: self.put(library, "A", NEST), lambda: library.remove("a"),
                     lambda: library.wish("a", ("ranks", 0)), lambda: library.wish("a", "row"), lambda: library.lift(1),
                     lambda: library["b"]):
            self.assertRaises((ValueError, LookupError, ArithmeticError), call)
            self.assertEqual(told(library), before)

    def test_libraries_do_not_know_of_each_other(self):
        one, other = Library(), Library()
        one["a"] = NEST
        self.assertEqual([one.names, other.names, other.changes], [("a",), (), 0])


class Trials(Asking):

    def test_without_an_exception_it_stays(self):
        library = library_with(a=NEST)
        with library.trial() as same:
            self.assertIs(same, library)
            library["b"] = UP
            library.wish("a", ("row",))
        self.assertEqual([library.names, library.wishes, library.changes], [("a", "b"), (("a", ("row",)),), 3])
        library.undo()
        library.undo()
        self.assertEqual([library.names, library.changes], [("a",), 1])

    def test_behind_an_exception_it_is_as_it_was(self):
        library = library_with(("a", "row"), a=NEST, b=UP)
        before = told(library)
        for error in (Failed, KeyboardInterrupt, GeneratorExit, StopIteration):
            with self.assertRaises(error):
                with library.trial():
                    library.remove("b")
                    library.lift(0)
                    library["a"] = UP
                    raise error()
            self.assertEqual(told(library), before)
        with self.assertRaises(Broken) as caught, library.trial():
            library["c"] = DOWN
            library["a"] = UP
        self.assertEqual([caught.exception.index, told(library)], [0, before])

    def test_undos_to_ahead_of_the_trial(self):
        library = library_with(a=NEST, b=UP)
        before = told(library)
        with self.assertRaises(Failed), library.trial():
            library.undo()
            library.undo()
            self.assertRaises(NothingToUndo, library.undo)
            library["c"] = DOWN
            raise Failed()
        self.assertEqual(told(library), before)
        with library.trial():
            library.undo()
        self.assertEqual([library.names, library.changes], [("a",), 1])

    def test_return_and_break(self):
        library = Library()

        def within():
            with library.trial():
                library["a"] = NEST
                return library.names

        self.assertEqual([within(), library.changes], [("a",), 1])
        for name in "bcd":
            with library.trial():
                library[name] = NEST
                break
        self.assertEqual(library.names, ("a", "b"))

    def test_the_trial_begins_with_the_statement(self):
        library = Library()
        trial = library.trial()
        library["a"] = NEST
        with self.assertRaises(Failed), trial:
            library["b"] = NEST
            raise Failed()
        self.assertEqual([library.names, library.changes], [("a",), 1])

    def test_trials_within_trials(self):
        library = Library()
        with library.trial():
            library["a"] = NEST
            with self.assertRaises(Failed), library.trial():
                library["b"] = NEST
                with library.trial():
                    library["c"] = NEST
                self.assertEqual(library.names, ("a", "b", "c"))
                raise Failed()
            self.assertEqual([library.names, library.changes], [("a",), 1])
            library["d"] = NEST
        self.assertEqual([library.names, library.changes], [("a", "d"), 2])
        with self.assertRaises(Failed), library.trial():
            with library.trial():
                library["e"] = NEST
            raise Failed()
        self.assertEqual([library.names, library.changes], [("a", "d"), 2])

    def test_one_object_for_several_statements(self):
        library = Library()
        trial = library.trial()
        with self.assertRaises(Failed), trial as one:
            one["a"] = NEST
            with trial as two:
                two["b"] = NEST
                with self.assertRaises(Failed), trial as three:
                    three["c"] = NEST
                    raise Failed()
                self.assertEqual(library.names, ("a", "b"))
            with self.assertRaises(Failed), trial, trial:
                library["d"] = NEST
                raise Failed()
            self.assertEqual([library.names, library.changes], [("a", "b"), 2])
            raise Failed()
        self.assertEqual([library.names, library.changes], [(), 0])
        with trial:
            library["a"] = NEST
        self.assertEqual(library.names, ("a",))

    def test_tried(self):
        library = library_with(a=NEST)
        given = []

        def action(some):
            given.append(some)
            some["b"] = UP
            return some.names

        self.assertEqual(library.tried(action), ("a", "b"))
        self.assertIs(given[0], library)
        self.assertEqual(told(library), (("a", "b"), (), 2, 2, (NEST, UP)))

        def failing(some):
            some.undo()
            some["c"] = UP
            raise Failed()

        with self.assertRaises(Failed):
            library.tried(failing)
        self.assertEqual(library.names, ("a", "b"))
        self.raises(UnknownName, "x", lambda: library.tried(lambda some: [some.remove("b"), some["x"]]))
        self.assertEqual([library.names, library.tried(lambda some: None)], [("a", "b"), None])

    def test_random_ones(self):
        """A library against plain dicts and lists."""
        source = random.Random(17)
        for _ in range(40):
            self.lead_about(source, Library(), [({}, ())], 0)

    def lead_about(self, source, library, states, depth):
        for _ in range(source.randint(5, 25)):
            programs, wishes = states[-1]
            name = source.choice("abc")
            chosen = source.random()
            if chosen < 0.35:
                program = source.choice((NEST, DOWN, UP, TWO, STOP))
                broken = [at for at, (other, wish) in enumerate(wishes) if other == name and not holds(program, wish)]
                if broken:
                    self.raises(Broken, broken[0], lambda: self.put(library, name, program))
                else:
                    library[name] = program
                    states.append(({**programs, name: program}, wishes))
            elif chosen < 0.45:
                used = [at for at, (other, _) in enumerate(wishes) if other == name]
                if name not in programs:
                    self.raises(UnknownName, name, lambda: library.remove(name))
                elif used:
                    self.raises(InUse, used[0], lambda: library.remove(name))
                else:
                    library.remove(name)
                    states.append(({other: programs[other] for other in programs if other != name}, wishes))
            elif chosen < 0.65:
                wish = source.choice((("row",), ("kept",), ("ranks", source.randint(0, 2)), ("within", "a", (7,), 7)))
                if name not in programs:
                    self.raises(UnknownName, name, lambda: library.wish(name, wish))
                elif not holds(programs[name], wish):
                    self.raises(Broken, len(wishes), lambda: library.wish(name, wish))
                else:
                    library.wish(name, wish)
                    states.append((programs, (*wishes, (name, wish))))
            elif chosen < 0.75 and wishes:
                index = source.randrange(len(wishes))
                library.lift(index)
                states.append((programs, wishes[:index] + wishes[index + 1:]))
            elif chosen < 0.85 and depth < 3:
                self.try_about(source, library, states, depth)
            elif len(states) == 1:
                self.assertRaises(NothingToUndo, library.undo)
            else:
                library.undo()
                states.pop()
            programs, wishes = states[-1]
            names = tuple(sorted(programs))
            self.assertEqual(told(library), (names, wishes, len(states) - 1, len(names),
                                             tuple(programs[other] for other in names)))
            self.assertTrue(all(holds(library[other], wish) for other, wish in library.wishes))

    def try_about(self, source, library, states, depth):
        within = list(states)
        if source.random() < 0.5:
            with library.trial():
                self.lead_about(source, library, within, depth + 1)
            states[:] = within
        else:
            with self.assertRaises(Failed), library.trial():
                self.lead_about(source, library, within, depth + 1)
                raise Failed()


class Wrong(Asking, Refusing):

    def test_putting(self):
        library = library_with(("a", "row"), a=NEST)
        before = told(library)
        for wrong in (*odd_values(), *NO_NAMES, Odd()):
            for program in (NEST, UP, None, Odd()):
                self.raises(InvalidName, wrong, lambda: self.put(library, wrong, program))
        for wrong in wrong_values("program"):
            for name in ("a", "b"):
                self.raises(NotProgram, wrong, lambda: self.put(library, name, wrong))
        self.assertEqual(told(library), before)

    def test_names_that_there_are_not(self):
        library = library_with(("a", "row"), a=NEST)
        before = told(library)
        for wrong in (*odd_values(), *NO_NAMES, Odd(), "b", "aa", NEST_TEXT, slice(0, 1), ([],), {}):
            self.raises(UnknownName, wrong, lambda: library[wrong])
            for call in (lambda: library.remove(wrong), lambda: library.remove(name=wrong)):
                self.raises(UnknownName, wrong, call)
            for wish in (("row",), ("ranks", 0), "row", None, Odd()):
                for call in (lambda: library.wish(wrong, wish), lambda: library.wish(wish=wish, name=wrong)):
                    self.raises(UnknownName, wrong, call)
        self.assertEqual(told(library), before)

    def test_what_is_no_wish(self):
        library = library_with(("a", "row"), a=NEST)
        before = told(library)
        for wrong in (*NO_WISHES, *wrong_values("wish"), Odd()):
            for call in (lambda: library.wish("a", wrong), lambda: library.wish(wish=wrong, name="a")):
                self.raises(InvalidWish, wrong, call)
        self.assertEqual(told(library), before)

    def test_what_is_no_index_of_a_wish(self):
        library = library_with(("a", "row"), ("a", "kept"), a=NEST)
        before = told(library)
        for wrong in (*odd_values(), Odd(), -1, -2, 2, BIG, -BIG, "0", "a", (), (0,)):
            for call in (lambda: library.lift(wrong), lambda: library.lift(index=wrong)):
                self.raises(InvalidIndex, wrong, call)
        self.assertEqual(told(library), before)
        self.raises(InvalidIndex, 0, lambda: Library().lift(0))

    def test_libraries_are_not_iterated_over(self):
        with self.assertRaises(TypeError):
            list(library_with(a=NEST))

    def test_an_equal_program(self):
        again = Program(*twin((NEST.names, NEST.sayings, NEST.branches)))
        library = library_with(("a", "ranks", 2), a=NEST)
        library["a"] = again
        self.assertIs(library["a"], again)
