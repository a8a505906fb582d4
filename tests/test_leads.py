import inspect
import random
import unittest

from fallranks import leads
from fallranks.errors import InvalidIndex, NothingToUndo, Stuck
from fallranks.leads import Lead
from fallranks.programs import Program
from fallranks.walking import can_take, take
from tests.ladders import random_program, x_program
from tests.refusing import Refusing, wrong_values
from tests.samples import DOWN, NEST, TWO, Odd, odd_values, twin

BIG = 10 ** 40
# x becomes -x, or stays, or becomes less by 1.
TURN = x_program([("a", "a", (), ((-1, 0),)), ("a", "a", (), ((1, 0),)), ("a", "a", ((1, -1),), ((1, -1),))])


def told(lead):
    """All that a lead tells."""
    return lead.place, lead.point, lead.taken, lead.ready, lead.again, len(lead)


class Leading(unittest.TestCase):

    def test_examples(self):
        lead = Lead(NEST, "a", (1, 1))
        self.assertEqual(
            [lead.ready, lead.take(1), lead.ready, lead.take(0), lead.point, lead.again, lead.taken, lead.undo(),
             len(lead), lead.tried(len)],
            [(0, 1), (0, 2), (0,), (0, 1), (0, 1), None, (1, 0), None, 1, 1])
        with self.assertRaises(Stuck) as caught:
            lead.take(1)
        self.assertEqual(caught.exception.index, 1)

    def test_by_name(self):
        lead = Lead(point=(3,), place="b", program=TWO)
        self.assertEqual([lead.take(index=1), lead.place, lead.point], [(3,), "a", (3,)])
        self.assertEqual(lead.tried(action=told), told(lead))

    def test_at_first(self):
        for program, place, point, ready in ((NEST, "a", (0, 0), ()), (DOWN, "a", (BIG,), (0,)), (TWO, "b", (-1,), (1,)),
                                             (TWO, "a", (0,), ()), (NEST, "a", (-3, 1), (0,))):
            lead = Lead(program, place, point)
            self.assertIs(lead.program, program)
            self.assertEqual(told(lead), (place, point, (), ready, None, 0))

    def test_the_interface_stands_in_the_class(self):
        for name in ("program", "place", "point", "taken", "ready", "again"):
            self.assertIsInstance(vars(Lead)[name], property)
        for name, parameters in (("take", ["self", "index"]), ("undo", ["self"]), ("trial", ["self"]),
                                 ("tried", ["self", "action"]), ("__len__", ["self"])):
            self.assertEqual(list(inspect.signature(vars(Lead)[name]).parameters), parameters)
        self.assertEqual(Lead.__module__, leads.__name__)

    def test_places(self):
        lead = Lead(TWO, "b", (2,))
        rows = []
        for index in (1, 0, 1, 0, 1):
            rows.append((lead.take(index), lead.place, lead.point, lead.ready))
        self.assertEqual(rows, [((2,), "a", (2,), (0,)), ((1,), "b", (1,), (1,)), ((1,), "a", (1,), (0,)),
                                ((0,), "b", (0,), (1,)), ((0,), "a", (0,), ())])
        self.assertEqual([lead.taken, len(lead), lead.again], [(1, 0, 1, 0, 1), 5, None])

    def test_sayings_are_not_looked_at(self):
        lead = Lead(NEST, "a", (-5, 1))
        self.assertEqual([lead.ready, lead.take(0), lead.ready], [(0,), (-5, 0), ()])

    def test_again(self):
        lead = Lead(TURN, "a", (3,))
        ago = []
        for index in (0, 0, 1, 1, 2, 0, 0, 2, 0, 0, 0):
            lead.take(index)
            ago.append(lead.again)
        # 3, -3, 3, 3, 3, 2, -2, 2, 1, -1, 1, -1
        self.assertEqual(ago, [None, 2, 1, 1, None, None, 2, None, None, 2, 2])
        for told_ago in (2, 2, None, None, 2, None, None, 1, 1, 2, None):
            self.assertEqual(lead.again, told_ago)
            lead.undo()
        self.assertIsNone(lead.again)

    def test_again_asks_for_the_place_too(self):
        lead = Lead(x_program([("a", "b", (), ((1, 0),)), ("b", "a", (), ((1, 0),))]), "a", (BIG,))
        self.assertEqual([lead.take(0), lead.again, lead.take(1), lead.again], [(BIG,), None, (BIG,), 2])

    def test_a_branch_that_cannot_be_taken_changes_nothing(self):
        lead = Lead(TWO, "b", (0,))
        lead.take(1)
        before = told(lead)
        for index in (0, 1):
            for call in (lambda: lead.take(index), lambda: lead.take(index=index)):
                with self.assertRaises(Stuck) as caught:
                    call()
                self.assertEqual([caught.exception.index, told(lead)], [index, before])

    def test_undo_to_the_beginning_and_further(self):
        lead = Lead(DOWN, "a", (5,))
        with self.assertRaises(NothingToUndo):
            lead.undo()
        for _ in range(3):
            lead.take(0)
        points = []
        for _ in range(3):
            points.append((lead.point, lead.undo()))
        self.assertEqual(points, [((2,), None), ((3,), None), ((4,), None)])
        for _ in range(2):
            with self.assertRaises(NothingToUndo):
                lead.undo()
            self.assertEqual(told(lead), ("a", (5,), (), (0,), None, 0))
        self.assertEqual([lead.take(0), lead.undo(), lead.take(0), lead.taken], [(4,), None, (4,), (0,)])

    def test_numbers_of_forty_figures(self):
        lead = Lead(NEST, "a", (BIG, BIG))
        self.assertEqual([lead.take(1), lead.take(1), lead.ready], [(BIG - 1, 2 * BIG), (BIG - 2, 3 * BIG - 1), (0, 1)])
        grows = Lead(x_program([("a", "a", (), ((10 ** 6, 1),))]), "a", (BIG,))
        for _ in range(5):
            grows.take(0)
        self.assertEqual(grows.point, (BIG * 10 ** 30 + sum(10 ** (6 * k) for k in range(5)),))

    def test_many_branches(self):
        lead = Lead(DOWN, "a", (BIG,))
        for _ in range(2000):
            lead.take(0)
        self.assertEqual([lead.point, len(lead), lead.taken], [(BIG - 2000,), 2000, (0,) * 2000])
        for _ in range(2000):
            lead.undo()
        self.assertEqual(told(lead), ("a", (BIG,), (), (0,), None, 0))

    def test_always_true(self):
        lead = Lead(DOWN, "a", (1,))
        self.assertEqual([bool(lead), len(lead), lead.take(0), bool(lead)], [True, 0, (0,), True])

    def test_equality(self):
        lead = Lead(DOWN, "a", (1,))

        class Agreeing:
            _history = lead._history

            def __eq__(self, other):
                return True

        for other in (Lead(DOWN, "a", (1,)), Lead(NEST, "a", (1, 1)), Agreeing(), DOWN, "a", (1,), *odd_values()):
            self.assertIs(lead == other, False)
            self.assertIs(lead != other, True)
        self.assertIs(lead == lead, True)
        self.assertIs(lead != lead, False)

    def test_leads_do_not_know_of_each_other(self):
        one, other = Lead(DOWN, "a", (3,)), Lead(DOWN, "a", (3,))
        one.take(0)
        self.assertEqual([one.point, other.point, len(other)], [(2,), (3,), 0])
        other.take(0)
        other.take(0)
        one.undo()
        self.assertEqual([one.point, other.point], [(3,), (1,)])

    def test_the_same_again(self):
        one = Lead(NEST, "a", (2, 1))
        other = Lead(Program(*twin((NEST.names, NEST.sayings, NEST.branches))), twin("a"), twin((2, 1)))
        for index in (1, 0, 1):
            self.assertEqual([one.take(index), told(one)], [other.take(index), told(other)])


class Failed(Exception):
    """What the blocks of the tests raise."""


class Trials(unittest.TestCase):

    def test_the_block_leaves_nothing(self):
        lead = Lead(DOWN, "a", (5,))
        lead.take(0)
        before = told(lead)
        with lead.trial() as same:
            self.assertIs(same, lead)
            lead.take(0)
            lead.take(0)
            self.assertEqual([lead.point, lead.taken], [(2,), (0, 0, 0)])
        self.assertEqual(told(lead), before)
        lead.undo()
        self.assertEqual(told(lead), ("a", (5,), (), (0,), None, 0))

    def test_an_exception_is_passed_on(self):
        lead = Lead(DOWN, "a", (2,))
        for error in (Failed, KeyboardInterrupt, GeneratorExit):
            with self.assertRaises(error):
                with lead.trial():
                    lead.take(0)
                    raise error()
            self.assertEqual(told(lead), ("a", (2,), (), (0,), None, 0))
        with self.assertRaises(Stuck) as caught, lead.trial():
            lead.take(0)
            lead.take(0)
            lead.take(0)
        self.assertEqual([caught.exception.index, len(lead)], [0, 0])

    def test_return_break_and_continue(self):
        lead = Lead(DOWN, "a", (9,))

        def within():
            with lead.trial():
                return lead.take(0)

        self.assertEqual([within(), len(lead)], [(8,), 0])
        for _ in range(3):
            with lead.trial():
                lead.take(0)
                continue
        while True:
            with lead.trial():
                lead.take(0)
                break
        self.assertEqual(len(lead), 0)

    def test_undos_to_ahead_of_the_trial(self):
        lead = Lead(DOWN, "a", (5,))
        lead.take(0)
        lead.take(0)
        with lead.trial():
            lead.undo()
            lead.undo()
            self.assertEqual([lead.point, lead.taken], [(5,), ()])
            with self.assertRaises(NothingToUndo):
                lead.undo()
            lead.take(0)
        self.assertEqual([lead.point, lead.taken], [(3,), (0, 0)])
        lead.undo()
        lead.undo()
        self.assertEqual(lead.point, (5,))
        with self.assertRaises(NothingToUndo):
            lead.undo()

    def test_the_trial_begins_with_the_statement(self):
        lead = Lead(DOWN, "a", (5,))
        trial = lead.trial()
        lead.take(0)
        with trial:
            lead.take(0)
        self.assertEqual(lead.point, (4,))
        lead.take(0)
        with trial:
            lead.undo()
        self.assertEqual([lead.point, lead.taken], [(3,), (0, 0)])

    def test_trials_within_trials(self):
        lead = Lead(DOWN, "a", (9,))
        with lead.trial():
            lead.take(0)
            with lead.trial():
                lead.take(0)
                with self.assertRaises(Failed), lead.trial():
                    lead.undo()
                    lead.undo()
                    raise Failed()
                self.assertEqual(lead.point, (7,))
            self.assertEqual(lead.point, (8,))
            lead.undo()
        self.assertEqual(told(lead), ("a", (9,), (), (0,), None, 0))

    def test_one_object_for_several_statements(self):
        lead = Lead(DOWN, "a", (9,))
        trial = lead.trial()
        with trial as one:
            one.take(0)
            with trial as two:
                two.take(0)
                with self.assertRaises(Failed), trial as three:
                    three.take(0)
                    self.assertEqual(lead.point, (6,))
                    raise Failed()
                self.assertEqual(lead.point, (7,))
                with trial, trial:
                    lead.undo()
                self.assertEqual(lead.point, (7,))
            self.assertEqual([lead.point, lead.taken], [(8,), (0,)])
        self.assertEqual([lead.point, lead.taken], [(9,), ()])
        with trial:
            lead.take(0)
        self.assertEqual(len(lead), 0)

    def test_tried(self):
        lead = Lead(DOWN, "a", (5,))
        given = []

        def action(some):
            given.append(some)
            some.take(0)
            return some.take(0), some.taken

        self.assertEqual(lead.tried(action), ((3,), (0, 0)))
        self.assertIs(given[0], lead)
        self.assertEqual(told(lead), ("a", (5,), (), (0,), None, 0))
        self.assertEqual([lead.tried(lambda some: some.tried(action)), lead.tried(lambda some: None)],
                         [((3,), (0, 0)), None])

        def failing(some):
            some.take(0)
            raise Failed()

        with self.assertRaises(Failed):
            lead.tried(failing)
        with self.assertRaises(Stuck):
            lead.tried(lambda some: [some.take(0) for _ in range(6)])
        self.assertEqual(len(lead), 0)

    def test_random_ones(self):
        """A lead against a plain list of states."""
        source = random.Random(15)
        for _ in range(60):
            program = random_program(source)
            place = source.choice(program.places)
            lead = Lead(program, place, (source.randint(-1, 9),) * len(program.names))
            self.lead_about(source, lead, [(None, place, lead.point)], 0)

    def lead_about(self, source, lead, states, depth):
        for _ in range(source.randint(3, 25)):
            place, point = states[-1][1:]
            program = lead.program
            chosen = source.random()
            index = source.randrange(len(program))
            if chosen < 0.2:
                if len(states) == 1:
                    self.assertRaises(NothingToUndo, lead.undo)
                else:
                    self.assertIsNone(lead.undo())
                    states.pop()
            elif chosen < 0.3 and depth < 3:
                with lead.trial():
                    self.lead_about(source, lead, list(states), depth + 1)
            elif can_take(program, index, place, point):
                behind = take(program, index, point)
                self.assertEqual(lead.take(index), behind)
                states.append((index, program.branches[index][1], behind))
            else:
                self.assertRaises(Stuck, lead.take, index)
            ago = [far for far in range(1, len(states)) if states[-1 - far][1:] == states[-1][1:]]
            ready = tuple(at for at in range(len(program)) if can_take(program, at, *states[-1][1:]))
            self.assertEqual(told(lead), (*states[-1][1:], tuple(state[0] for state in states[1:]), ready,
                                          ago[0] if ago else None, len(states) - 1))


class Wrong(Refusing):

    def test_each_argument_and_their_order(self):
        self.refuses_all(Lead, ("program", "place", "point"), (NEST, "a", (2, 1)))

    def test_what_is_no_index(self):
        lead = Lead(NEST, "a", (1, 0))
        self.refuses_all(lead.take, ("index",), (1,))
        for wrong in (*wrong_values("index"), *odd_values(), Odd()):
            with self.assertRaises(InvalidIndex) as caught:
                lead.take(wrong)
            self.assertIs(caught.exception.given, wrong)
        self.assertEqual(told(lead), ("a", (1, 0), (), (1,), None, 0))

    def test_an_index_of_another_program(self):
        with self.assertRaises(InvalidIndex):
            Lead(DOWN, "a", (3,)).take(1)
        with self.assertRaises(ValueError):
            Lead(DOWN, "b", (3,))
