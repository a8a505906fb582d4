import unittest

from fallranks.errors import InvalidBranches, InvalidIndex, InvalidNames, InvalidSayings
from fallranks.programs import Program
from tests.samples import (DOWN_PARTS, DOWN_TEXT, FULL_PARTS, NEST_PARTS, NEST_TEXT, SAMPLES, UP_PARTS, Odd,
                           odd_values, twin)

BIG = 10 ** 6


def same(many):
    """Forms that leave so many variables as they are."""
    return tuple([tuple([int(at == row) for at in range(many + 1)]) for row in range(many)])


def branch(source="a", target="a", tests=(), changes=((1, 0),)):
    return (source, target, tests, changes)


class Case(unittest.TestCase):

    def refused(self, error, index, names, sayings, branches):
        """Program raises this very error for these parts, by position and by name."""
        for call in (lambda: Program(names, sayings, branches),
                     lambda: Program(branches=branches, names=names, sayings=sayings)):
            with self.assertRaises(error) as caught:
                call()
            self.assertIs(type(caught.exception), error)
            self.assertEqual(caught.exception.index, index)
            self.assertNotIsInstance(caught.exception.index, bool)


class Names(Case):

    def names(self, index, names):
        with self.subTest(names=type(names).__name__, index=index):
            self.refused(InvalidNames, index, names, (), (branch(),))

    def test_right_names(self):
        for names in (("a",), ("z",), ("a0",), ("z9",), ("abcdefgh",), ("a1234567",), ("x", "y"), ("x", "xx", "xxx"),
                      ("vars",), ("a", "b", "c")):
            made = Program(names, (), (branch(changes=same(len(names))),))
            self.assertEqual(made.names, names)

    def test_no_tuple_or_none_at_all(self):
        for names in (*odd_values(), ["x"], "x", "", 1, 0, (), {"x": 1}):
            self.names(None, names)

    def test_what_is_no_name(self):
        for wrong in ("", "abcdefghi", "1", "1a", "A", "aB", "a_b", "_a", "a b", " a", "a ", "a\n", "\n", "-", "a-b",
                      "a;", 1, 0, ("x",), ()):
            self.names(0, (wrong,))
            self.names(1, ("x", wrong))
            self.names(2, ("x", "y", wrong, "x"))
        for wrong in odd_values():
            self.names(0, (wrong, "x"))
            self.names(1, ("x", wrong))

    def test_each_sign(self):
        letters = "abcdefghijklmnopqrstuvwxyz"
        figures = "0123456789"
        for sign in [chr(number) for number in (10, *range(32, 127))]:
            for name, right in ((sign, sign in letters), ("a" + sign, sign in letters + figures)):
                if right:
                    self.assertEqual(Program((name,), (), (branch(),)).names, (name,))
                else:
                    self.names(0, (name,))

    def test_twice(self):
        self.names(1, ("x", "x"))
        self.names(2, ("x", "y", "x"))
        self.names(2, ("x", "y", "y", "x"))
        self.names(1, ("x", twin("x"), ""))

    def test_the_fourth(self):
        self.names(3, ("x", "y", "z", "w"))
        self.names(3, ("x", "y", "z", "w", "v"))
        self.names(3, ("x", "y", "z", Odd()))
        self.names(2, ("x", "y", "x", "w"))


class Sayings(Case):

    def sayings(self, index, sayings, names=("x",)):
        with self.subTest(sayings=type(sayings).__name__, index=index):
            self.refused(InvalidSayings, index, names, sayings, (branch(changes=same(len(names))),))

    def test_right_sayings(self):
        for sayings in ((), (("a", (1, 0)),), (("b", (BIG, -BIG)),), (("a", (0, 0)), ("a", (0, 0)), ("a", (0, 0))),
                        (("a", (1, 0)), ("b", (1, 0)), ("c", (1, 0))), (("x", (1, 0)),)):
            self.assertEqual(Program(("x",), sayings, (branch(),)).sayings, sayings)
        for many in (1, 2, 3):
            names = ("x", "y", "z")[:many]
            sayings = (("a", (1,) * (many + 1)),)
            self.assertEqual(Program(names, sayings, (branch(changes=same(many)),)).sayings, sayings)

    def test_no_tuple(self):
        for sayings in (*odd_values(), [("a", (1, 0))], "a", "", 0, 1):
            self.sayings(None, sayings)

    def test_what_is_no_saying(self):
        right = ("a", (1, 0))
        for wrong in (*odd_values(), 1, "a", "ab", (), ("a",), ("a", (1, 0), 1), ["a", (1, 0)], ("a", 1, 0),
                      ((1, 0), "a")):
            self.sayings(0, (wrong,))
            self.sayings(1, (right, wrong, right))
            self.sayings(2, (right, right, wrong, right))

    def test_what_is_no_place(self):
        for wrong in (*odd_values(), "", "abcdefghi", "1a", "A", "a b", "a\n", 1, ()):
            self.sayings(0, ((wrong, (1, 0)),))

    def test_what_is_no_form(self):
        for wrong in (*odd_values(), (), (1,), (1, 0, 0), [1, 0], 1, "10", ("1", "0")):
            self.sayings(0, (("a", wrong),))
        for wrong in (*odd_values(), "1", (1,), BIG + 1, -BIG - 1, 10 ** 40, -(10 ** 40)):
            self.sayings(0, (("a", (wrong, 0)),))
            self.sayings(1, (("a", (1, 0)), ("a", (0, wrong))))

    def test_forms_for_as_many_variables_as_there_are(self):
        self.sayings(0, (("a", (1, 0)),), ("x", "y"))
        self.sayings(0, (("a", (1, 0, 0, 0)),), ("x", "y"))
        self.sayings(1, (("a", (1, 0, 0)), ("a", (1, 0))), ("x", "y"))
        self.sayings(0, (("a", (1, 0, 0)),), ("x", "y", "z"))

    def test_the_fourth(self):
        right = ("a", (1, 0))
        self.sayings(3, (right,) * 4)
        self.sayings(3, (right,) * 5)
        self.sayings(3, (right, right, right, Odd()))
        self.sayings(3, (("a", (1, 0)), ("b", (1, 0)), ("c", (1, 0)), ("d", (1, 0))))


class Branches(Case):

    def branches(self, index, branches, names=("x",), sayings=()):
        with self.subTest(branches=type(branches).__name__, index=index):
            self.refused(InvalidBranches, index, names, sayings, branches)

    def test_right_branches(self):
        test = (BIG, -BIG)
        for branches in ((branch(),), (branch(),) * 5, (branch(tests=(test,)),), (branch(tests=(test,) * 3),),
                         (branch("b", "a"), branch("a", "c"), branch("c", "b")), (branch(changes=(test,)),)):
            self.assertEqual(Program(("x",), (), branches).branches, branches)

    def test_no_tuple_or_none_at_all(self):
        for branches in (*odd_values(), (), [branch()], "", "a", 1, 0):
            self.branches(None, branches)

    def test_what_is_no_branch(self):
        for wrong in (*odd_values(), 1, "abcd", (), ("a", "a", ()), ("a", "a", (), ((1, 0),), ()), list(branch()),
                      ("a", "a", ((1, 0),)), ("a", (), ((1, 0),), "a")):
            self.branches(0, (wrong,))
            self.branches(1, (branch(), wrong, branch()))
            self.branches(4, (branch(),) * 4 + (wrong, branch()))

    def test_what_is_no_place(self):
        for wrong in (*odd_values(), "", "abcdefghi", "1a", "A", "a b", "a\n", 1, ()):
            self.branches(0, (branch(source=wrong),))
            self.branches(0, (branch(target=wrong),))

    def test_what_are_no_tests(self):
        test = (1, 0)
        for wrong in (*odd_values(), 1, "1", test, [test], (test,) * 4, (test, [1, 0]), (test, test, (1,)),
                      ((1, 0, 0),), ((),)):
            self.branches(0, (branch(tests=wrong),))
        for wrong in (*odd_values(), "1", (1,), BIG + 1, -BIG - 1, 10 ** 40):
            self.branches(0, (branch(tests=((wrong, 0),)),))
            self.branches(0, (branch(tests=(test, test, (0, wrong))),))

    def test_what_are_no_changes(self):
        for wrong in (*odd_values(), (), 1, "1", (1, 0), [(1, 0)], ([1, 0],), ((1, 0), (1, 0)), ((1, 0, 0),), ((1,),)):
            self.branches(0, (branch(changes=wrong),))
        for wrong in (*odd_values(), "1", (1,), BIG + 1, -BIG - 1, 10 ** 40):
            self.branches(0, (branch(changes=((wrong, 0),)),))
            self.branches(1, (branch(), branch(changes=((0, wrong),))))

    def test_a_form_for_each_variable(self):
        for many, names in ((2, ("x", "y")), (3, ("x", "y", "z"))):
            form = (0,) * (many + 1)
            self.branches(0, (branch(changes=(form,) * (many - 1)),), names)
            self.branches(0, (branch(changes=(form,) * (many + 1)),), names)
            self.branches(0, (branch(changes=(form,) * (many - 1) + ((0,) * many,)),), names)
            self.branches(0, (branch(tests=((0,) * many,), changes=(form,) * many),), names)

    def test_the_sixth(self):
        self.branches(5, (branch(),) * 6)
        self.branches(5, (branch(),) * 7)
        self.branches(5, (branch(),) * 5 + (Odd(),))

    def test_a_fourth_place(self):
        three = (branch("a", "b"), branch("b", "c"))
        self.branches(2, three + (branch("c", "d"),))
        self.branches(2, three + (branch("d", "c"),))
        self.branches(2, three + (branch("d", "d"), Odd()))
        self.branches(3, three + (branch("c", "a"), branch("a", "d"), branch("d", "a")))
        self.branches(1, (branch("a", "b"), branch("c", "d")))

    def test_a_fourth_place_behind_those_of_sayings(self):
        said = tuple([(place, (1, 0)) for place in "abc"])
        self.branches(0, (branch("d", "a"),), sayings=said)
        self.branches(0, (branch("a", "d"),), sayings=said)
        self.branches(1, (branch("c", "a"), branch("b", "d")), sayings=said)
        self.branches(0, (branch("c", "d"),), sayings=said[:2])
        self.assertEqual(Program(("x",), said, (branch("c", "a"),)).places, ("a", "b", "c"))

    def test_the_first_one_is_told(self):
        self.branches(1, (branch("a", "b"), Odd(), branch("c", "d")))
        self.branches(1, (branch("a", "b"), branch("c", "d"), Odd()))


class Order(Case):
    """Several things wrong at once: the first argument of the signature is told."""

    def test_names_ahead_of_all(self):
        for sayings in ((), None, (Odd(),)):
            for branches in ((), [], (Odd(),), (branch(),)):
                self.refused(InvalidNames, None, [], sayings, branches)
                self.refused(InvalidNames, 1, ("x", "x"), sayings, branches)

    def test_sayings_ahead_of_branches(self):
        for branches in ((), [], (Odd(),), None):
            self.refused(InvalidSayings, None, ("x",), [], branches)
            self.refused(InvalidSayings, 0, ("x",), (Odd(),), branches)
            self.refused(InvalidSayings, 3, ("x",), (("a", (1, 0)),) * 4, branches)

    def test_branches_last(self):
        self.refused(InvalidBranches, None, ("x",), (), [])
        self.refused(InvalidBranches, 0, ("x",), (("a", (1, 0)),), (Odd(),))


class Parts(unittest.TestCase):

    def test_names_sayings_and_branches_as_they_were_passed(self):
        for parts, _ in SAMPLES:
            made = Program(*parts)
            self.assertIs(made.names, parts[0])
            self.assertIs(made.sayings, parts[1])
            self.assertIs(made.branches, parts[2])

    def test_by_name(self):
        names, sayings, branches = NEST_PARTS
        self.assertEqual(Program(branches=branches, sayings=sayings, names=names).text, NEST_TEXT)

    def test_places_in_the_order_of_their_first_standing(self):
        self.assertEqual([Program(*parts).places for parts, _ in SAMPLES],
                         [("a",), ("a",), ("a",), ("p", "q", "r"), ("branch", "say", "test")])
        b_first = (("b", (1, 0)),)
        for sayings, ends, places in (
                ((), "cb", ("c", "b")), ((), "bc", ("b", "c")), (b_first, "ab", ("b", "a")),
                (b_first, "ca", ("b", "c", "a")), ((), "zzya", ("z", "y", "a")), ((), "zaaz", ("z", "a")),
                ((("c", (1, 0)), ("b", (0, 0)), ("c", (0, 0))), "ab", ("c", "b", "a"))):
            branches = tuple([branch(ends[at], ends[at + 1]) for at in range(0, len(ends), 2)])
            self.assertEqual(Program(("x",), sayings, branches).places, places)

    def test_text(self):
        for parts, text in SAMPLES:
            self.assertEqual(Program(*parts).text, text)
            self.assertEqual(str(Program(*parts)), text)
            self.assertIs(type(Program(*parts).text), str)

    def test_len_and_repr(self):
        for many in range(1, 6):
            made = Program(("x",), (), (branch(),) * many)
            self.assertEqual(len(made), many)
            self.assertEqual(repr(made), f"Program of {many} branches")

    def test_a_program_is_true(self):
        for parts, _ in SAMPLES:
            self.assertTrue(Program(*parts))

    def test_nothing_that_is_passed_is_changed(self):
        lists = [["x"], [("a", [1, 0])], [["a", "a", [], [[1, 0]]]]]
        for parts in ((lists[0], (), ()), (("x",), lists[1], ()), (("x",), (), lists[2]), (("x",), (), (lists[2][0],))):
            with self.assertRaises(ValueError):
                Program(*parts)
        self.assertEqual(lists, [["x"], [("a", [1, 0])], [["a", "a", [], [[1, 0]]]]])

    def test_a_program_stays_as_it_is(self):
        made = Program(*NEST_PARTS)
        for name in ("names", "sayings", "branches", "places", "text"):
            with self.assertRaises(AttributeError):
                setattr(made, name, ())
        self.assertEqual(made, Program(*NEST_PARTS))


class Equality(unittest.TestCase):

    def test_equal_programs(self):
        for parts, text in SAMPLES:
            made = Program(*parts)
            for other in (made, Program(*parts), Program(*twin(parts)), Program.read(text), made.changed(())):
                self.assertIs(made == other, True)
                self.assertIs(made != other, False)

    def test_programs_that_differ_in_one_place(self):
        names, sayings, branches = NEST_PARTS
        first, second = branches
        others = [
            (("x", "z"), sayings, branches),
            (("y", "x"), sayings, branches),
            (names, sayings[:1], branches),
            (names, sayings[::-1], branches),
            (names, (("a", (1, 0, 1)), sayings[1]), branches),
            (names, (("b", (1, 0, 0)), sayings[1]), branches),
            (names, sayings, branches[::-1]),
            (names, sayings, branches[:1]),
            (names, sayings, (("b",) + first[1:], second)),
            (names, sayings, (first[:1] + ("b",) + first[2:], second)),
            (names, sayings, (first[:2] + ((),) + first[3:], second)),
            (names, sayings, (first[:2] + (((0, 1, 1),),) + first[3:], second)),
            (names, sayings, (first, second[:3] + (((1, 0, -1), (1, 1, -1)),))),
        ]
        made = Program(*NEST_PARTS)
        for parts in others:
            for one, other in ((made, Program(*parts)), (Program(*parts), made)):
                self.assertIs(one == other, False)
                self.assertIs(one != other, True)

    def test_values_of_other_classes(self):
        made = Program(*DOWN_PARTS)
        others = [value for value in odd_values() if not isinstance(value, (Program, Odd))]
        for other in (*others, DOWN_TEXT, DOWN_PARTS, 1, 0, (), ""):
            for one, two in ((made, other), (other, made)):
                self.assertIs(one == two, False)
                self.assertIs(one != two, True)

    def test_a_value_that_says_it_is_equal_to_all(self):
        class Agreeing:
            text = DOWN_TEXT
            _text = DOWN_TEXT

            def __eq__(self, other):
                return True

        self.assertIs(Program(*DOWN_PARTS) == Agreeing(), False)
        self.assertIs(Program(*DOWN_PARTS) != Agreeing(), True)


class AllTests(unittest.TestCase):

    def test_tests_and_behind_them_the_sayings_at_the_source(self):
        full = Program(*FULL_PARTS)
        at_p = ((10 ** 6, -(10 ** 6), 0, 7), (0, 0, 0, -1))
        self.assertEqual(full.all_tests(0), FULL_PARTS[2][0][2] + ((0, 0, 0, 0),))
        self.assertEqual(full.all_tests(1), ())
        self.assertEqual(full.all_tests(2), ((0, 0, 1, -(10 ** 6)),) + at_p)
        self.assertEqual(full.all_tests(3), ((0, 0, 1, 0), (0, 0, 1, 0)) + at_p)
        self.assertEqual(full.all_tests(index=4), full.all_tests(3))

    def test_without_sayings(self):
        self.assertEqual(Program(*DOWN_PARTS).all_tests(0), ((1, -1),))
        self.assertEqual(Program(*UP_PARTS).all_tests(0), ((1, 0),))
        self.assertEqual(Program(("x",), (), (branch(),)).all_tests(0), ())

    def test_sayings_at_the_target_do_not_count(self):
        made = Program(("x",), (("b", (1, 0)),), (branch("a", "b"), branch("b", "a")))
        self.assertEqual([made.all_tests(0), made.all_tests(1)], [(), ((1, 0),)])

    def test_what_is_no_index(self):
        for parts, _ in SAMPLES:
            made = Program(*parts)
            for wrong in (*odd_values(), -1, -len(made), len(made), len(made) + 1, 10 ** 40, -(10 ** 40), "0", "", (),
                          (0,)):
                for call in (lambda: made.all_tests(wrong), lambda: made.all_tests(index=wrong)):
                    with self.assertRaises(InvalidIndex) as caught:
                        call()
                    self.assertIs(caught.exception.given, wrong)

    def test_the_same_call_again(self):
        made = Program(*NEST_PARTS)
        self.assertEqual(made.all_tests(1), made.all_tests(1))
        self.assertEqual(made, Program(*NEST_PARTS))


class Examples(unittest.TestCase):
    """What the document shows."""

    def test_examples(self):
        nest = Program.read("vars x y\nsay a 1 0 0\nsay a 0 1 0\nbranch a a\ntest 0 1 -1\nthen 1 0 0; 0 1 -1\n"
                            "branch a a\ntest 1 0 -1\nthen 1 0 -1; 1 1 0")
        down = Program(("x",), (), (("a", "a", ((1, -1),), ((1, -1),)),))
        up = Program(("x",), (("a", (1, 0)),), (("a", "a", (), ((1, 1),)),))
        self.assertEqual(
            [nest.places, len(nest), repr(nest), nest.all_tests(1), str(down), up.branches[0][3]],
            [("a",), 2, "Program of 2 branches", ((1, 0, -1), (1, 0, 0), (0, 1, 0)),
             "vars x\nbranch a a\ntest 1 -1\nthen 1 -1", ((1, 1),)])
        self.assertEqual(down.changed(((2, ""), (3, "then 1 -2"))).text, "vars x\nbranch a a\nthen 1 -2")
        with self.assertRaises(InvalidBranches) as caught:
            Program(("x",), (), (("a", "b", (), ((1, 0),)), ("b", "c", (), ((1, 0),)), ("c", "d", (), ((1, 0),))))
        self.assertEqual(caught.exception.index, 2)
