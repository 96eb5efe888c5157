"""Adding equations, receiving, taking back and cloning: points [15] to [17] of the document, BACK of point [4]."""

import random
import unittest

import linear
from histories import LEVELS, draw_assignment, drawn_replica, drawn_replicas
from lastheld.errors import InvalidEquation, InvalidNumber, NothingToTakeBack, OtherSheet, Refused
from lastheld.joining import joined
from lastheld.replicas import RecordingReplica, Replica
from lastheld.sheets import Sheet
from lastheld.spaces import Space
from lastheld.states import State
from models import VALUES
from values import error_of, no_equations, spoil

SHEET = Sheet(["a", "b", "s"])


def linked(*pairs, kind=Replica):
    """A new replica in which s is the sum of a and b, after some assignments."""
    replica = kind("ann", SHEET)
    replica.add_equation((1, 1, -1))
    for field, value in pairs:
        replica.assign(field, value)
    return replica


def coefficient_of(state, equation, given):
    """The coefficient of a field of the base when an equation is written by the base."""
    parts = [coefficient * linear.fraction_of(state.expression(field).get(given, 0))
             for field, coefficient in zip(state.space().sheet().fields(), equation)]
    return sum(parts)


class AddEquationTest(unittest.TestCase):
    def test_drawn_equations(self):
        source = random.Random(41)
        counts = {True: 0, False: 0}
        for replica in drawn_replicas(120, 40):
            before = replica.state()
            width = before.space().sheet().width
            equation = source.choice([linear.random_row(source, width), *before.space().rows()[:1]])
            leaving = replica.add_equation(equation)
            weakest = [field for field in before.base() if coefficient_of(before, equation, field) != 0][-1:]
            self.assertEqual(leaving, weakest[0] if weakest else None)
            self.assertEqual(leaving is None, before.space().follows(equation))
            counts[leaving is None] += 1
            after = replica.state()
            self.assertEqual(after, State(before.space().with_equations(equation), before.held(), clock=before.clock))
            self.assertEqual(after.base(), [field for field in before.base() if field != leaving])
            for field in before.all_values():
                if leaving not in before.expression(field):
                    self.assertEqual(after.value_of(field), before.value_of(field))
        self.assertGreater(min(counts.values()), 20)

    def test_known_equations(self):
        replica = linked(("a", 3), ("b", 4))
        self.assertEqual(replica.add_equation((2, 2, -2)), None)
        self.assertEqual(replica.add_equation((0, 0, 0)), None)
        self.assertEqual(replica.add_equation(equation=(2, -1, 0)), "a")
        self.assertEqual([replica.all_values(), replica.clock], [{"a": 2, "b": 4, "s": 6}, 2])
        self.assertEqual(replica.add_equation((0, 0, 5)), "b")
        self.assertEqual([replica.all_values(), replica.freedom, replica.clock], [{"a": 0, "b": 0, "s": 0}, 0, 2])
        self.assertEqual(replica.add_equation((1, 2, 3)), None)

    def test_wrong_equations(self):
        replica = linked(("a", 3))
        before = replica.clone()
        for value in no_equations():
            self.assertEqual(error_of(InvalidEquation, replica.add_equation, value).value, value)
        self.assertEqual(replica, before)
        replica.take_back()


class ReceiveTest(unittest.TestCase):
    def test_drawn_states(self):
        source = random.Random(43)
        for _ in range(80):
            width = source.randint(1, 6)
            one, other = [drawn_replica(source, width) for _ in range(2)]
            before = one.state()
            changed = one.receive(other.state())
            self.assertEqual(one.state(), joined(before, other.state()))
            self.assertEqual(changed, before.changed_fields(one.state()))
            self.assertEqual(one.clock, max(before.clock, other.clock))
            self.assertEqual([one.receive(other.state()), one.receive(before), one.receive(one.state())], [[], [], []])
            other.receive(before)
            self.assertEqual(other.state(), one.state())

    def test_known_states(self):
        one, other = linked(("a", 3)), Replica("bo", SHEET)
        self.assertEqual(other.receive(one.state()), ["a", "s"])
        self.assertEqual([other.all_values(), other.clock, other.name], [{"a": 3, "b": 0, "s": 3}, 1, "bo"])
        other.assign("s", 10)
        one.assign("b", 4)
        self.assertEqual(one.receive(state=other.state()), ["a", "s"])
        self.assertEqual([one.all_values(), one.clock], [{"a": 6, "b": 4, "s": 10}, 2])

    def test_the_list_belongs_to_the_caller(self):
        replica = linked(kind=RecordingReplica)
        spoil(replica.receive(linked(("a", 3)).state()))
        self.assertEqual(replica.records()[-1], ("receive", ("a", "s")))
        self.assertEqual(replica.all_values(), {"a": 3, "b": 0, "s": 3})

    def test_another_sheet(self):
        replica = linked(("a", 3))
        before = replica.clone()
        for fields in [["a", "b"], ["b", "a", "s"], ["a", "b", "c"]]:
            found = error_of(OtherSheet, replica.receive, State(Space(Sheet(fields)), [(0, 9, "bo", "a", 9)]))
            self.assertEqual(found.index, 0)
        self.assertEqual(replica, before)
        replica.take_back()


class TakeBackTest(unittest.TestCase):
    def test_back(self):
        source = random.Random(45)
        for replica in drawn_replicas(150, 44):
            before = replica.state()
            if draw_assignment(source, replica) is not None:
                between = replica.state()
                self.assertIsNone(replica.take_back())
                self.assertEqual(replica.all_values(), before.all_values())
                self.assertEqual(replica.clock, before.clock + 2)
                self.assertEqual(replica.state().base(), between.base())
                error_of(NothingToTakeBack, replica.take_back)

    def test_the_setting_that_is_made(self):
        replica = linked()
        replica.assign("s", 5, level=1)
        replica.use_level(2)
        replica.take_back()
        self.assertEqual(replica.state().held(), [(1, 2, "ann", "s", 0)])
        self.assertEqual([replica.state().base(), replica.clock, replica.default_level], [["s", "a"], 2, 2])

    def test_known_values(self):
        replica = linked(("a", 3), ("b", 4), ("s", 10))
        replica.take_back()
        self.assertEqual([replica.all_values(), replica.state().base(), replica.clock],
                         [{"a": 3, "b": 4, "s": 7}, ["s", "b"], 4])

    def test_calls_that_change_nothing_do_not_matter(self):
        replica = linked(("a", 3))
        replica.assign("b", 4, level=2)
        calls = [
            lambda: replica.add_equation((2, 2, -2)), lambda: replica.add_equation((0, 0, 0)),
            lambda: replica.receive(replica.state()), lambda: replica.receive(State(Space(SHEET))),
            lambda: replica.assign_all(), lambda: replica.assign_named(), lambda: replica.use_level(1),
            lambda: replica.preview("a", 9), lambda: error_of(Refused, replica.assign, "b", 1),
            lambda: error_of(Refused, replica.assign_all, ("a", 1), ("b", 1)),
            lambda: error_of(Refused, replica.assign_named, s=1, b=1),
            lambda: error_of(Refused, replica.preview, "b", 1), lambda: error_of(InvalidNumber, replica.assign, "a", None),
            lambda: error_of(InvalidEquation, replica.add_equation, None), lambda: replica.clone().take_back(),
            lambda: error_of(OtherSheet, replica.receive, State(Space(Sheet(["a"])))), lambda: replica.clone().assign("a", 1),
        ]
        for call in calls:
            twin = replica.clone()
            call()
            twin.use_level(replica.default_level)
            self.assertEqual(replica, twin)
        replica.take_back()
        self.assertEqual(replica.all_values(), {"a": 3, "b": 0, "s": 3})

    def test_nothing_to_take_back(self):
        calls = [
            lambda replica: replica.take_back(), lambda replica: replica.add_equation((1, 0, 0)),
            lambda replica: replica.assign_all(("a", 1)), lambda replica: replica.assign_named(b=1),
            lambda replica: replica.receive(State(Space(SHEET), [(0, 9, "bo", "s", 1)])),
            # Only the space or the clock changes, and no value.
            lambda replica: replica.receive(State(Space(SHEET), clock=9)),
            lambda replica: replica.receive(State(Space(SHEET), [(0, 1, "bo", "s", 0)], clock=9)),
            lambda replica: replica.add_equation((4, -3, 0)),
        ]
        for call in calls:
            replica = linked(("a", 3), ("b", 4))
            call(replica)
            before = replica.clone()
            error_of(NothingToTakeBack, replica.take_back)
            self.assertEqual(replica, before)
            replica.use_level(0)
            if replica.freedom > 1:
                replica.assign("s", 5)
                replica.take_back()

    def test_new_replicas(self):
        for replica in [Replica("ann", SHEET), linked(), RecordingReplica("ann", SHEET)]:
            error_of(NothingToTakeBack, replica.take_back)

    def test_only_the_last_one(self):
        replica = linked(("a", 3), ("a", 5))
        replica.take_back()
        self.assertEqual(replica.value_of("a"), 3)
        error_of(NothingToTakeBack, replica.take_back)
        self.assertEqual(replica.value_of("a"), 3)

    def test_an_assignment_of_the_same_value(self):
        replica = linked(("a", 3), ("a", 3))
        replica.take_back()
        self.assertEqual([replica.value_of("a"), replica.clock], [3, 3])


class CloneTest(unittest.TestCase):
    def test_equal_and_of_the_same_class(self):
        for kind in [Replica, RecordingReplica]:
            replica = linked(("a", 3), ("b", 4), kind=kind)
            replica.use_level(1)
            twin = replica.clone()
            self.assertIs(twin.__class__, kind)
            self.assertTrue(twin == replica)
            self.assertEqual([twin.name, twin.clock, twin.default_level, repr(twin)],
                             ["ann", 2, 1, repr(replica)])

    def test_independent(self):
        source = random.Random(47)
        for kind in [Replica, RecordingReplica]:
            changes = [
                lambda one: one.assign("a", 9), lambda one: one.add_equation((1, 0, 0)), lambda one: one.use_level(2),
                lambda one: one.take_back(), lambda one: one.assign_all(("a", 1), ("b", 2)),
                lambda one: one.receive(State(Space(SHEET), [(2, source.randint(9, 99), "bo", "s", 1)])),
            ]
            for change in changes:
                replica = linked(("a", 3), ("b", 4), kind=kind)
                twin, third = replica.clone(), replica.clone()
                change(twin)
                self.assertEqual([replica == third, twin == replica], [True, False])
                change(replica)
                self.assertFalse(replica == third)
                self.assertEqual(third, linked(("a", 3), ("b", 4), kind=kind))

    def test_its_last_assignment_can_be_taken_back(self):
        replica = linked(("a", 3), ("b", 4))
        twin = replica.clone()
        replica.take_back()
        error_of(NothingToTakeBack, replica.clone().take_back)
        twin.take_back()
        self.assertEqual(twin, replica)
        self.assertEqual(twin.all_values(), {"a": 3, "b": 0, "s": 3})

    def test_drawn_replicas_and_their_clones(self):
        source = random.Random(48)
        for replica in drawn_replicas(40, 49):
            twin = replica.clone()
            field, value, level = source.choice(list(replica.all_values())), source.choice(VALUES), source.choice(LEVELS)
            for one in [replica, twin]:
                try:
                    one.assign(field, value, level=level)
                except Refused:
                    pass
            self.assertEqual(replica, twin)


if __name__ == "__main__":
    unittest.main()
