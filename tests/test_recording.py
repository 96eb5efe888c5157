"""Recording replicas: point [18] of the document, and the class of the interface."""

import random
import unittest

import linear
from histories import LEVELS, drawn_replica
from lastheld.errors import InvalidCount, InvalidName, NothingToTakeBack, Refused
from lastheld.replicas import RecordingReplica, Replica
from lastheld.sheets import Sheet
from lastheld.spaces import Space
from lastheld.states import State
from models import VALUES
from values import error_of, no_names, other_kinds, spoil

SHEET = Sheet(["a", "b", "s"])


def linked(most=20):
    """A new recording replica in which s is the sum of a and b."""
    replica = RecordingReplica("ann", SHEET, most=most)
    replica.add_equation((1, 1, -1))
    return replica


class RecordTest(unittest.TestCase):
    def test_a_new_one(self):
        replica = RecordingReplica("ann", SHEET)
        self.assertEqual([replica.records(), replica.total, replica.name, replica.default_level], [[], 0, "ann", 0])
        self.assertIsInstance(replica, Replica)
        self.assertEqual([RecordingReplica.FIXED, RecordingReplica.is_level(2)], [2, True])

    def test_each_kind(self):
        replica = linked()
        replica.assign("a", (1, 2))
        replica.use_level(1)
        replica.assign("s", 10)
        replica.assign_all(("b", 1), ("a", 2), level=2)
        replica.assign_named(s=5, b=6, level=2)
        replica.receive(State(Space(SHEET), [(2, 99, "bo", "s", 1)]))
        replica.assign("a", 7, level=2)
        replica.take_back()
        replica.add_equation((1, -1, 0))
        self.assertEqual(replica.records(), [
            ("equation", (1, 1, -1), "s"),
            ("assign", "a", (1, 2), 0, "a"),
            ("assign", "s", 10, 1, "b"),
            ("assign", "b", 1, 2, "a"),
            ("assign", "a", 2, 2, "s"),
            ("assign", "s", 5, 2, "b"),
            ("assign", "b", 6, 2, "a"),
            ("receive", ("a", "s")),
            ("assign", "a", 7, 2, "b"),
            ("back", "a"),
            ("equation", (1, -1, 0), "s"),
        ])
        self.assertEqual(replica.total, 11)

    def test_what_is_not_recorded(self):
        replica = linked()
        replica.assign("a", 1, level=2)
        before = replica.records()
        replica.add_equation((2, 2, -2))
        replica.add_equation((0, 0, 0))
        error_of(Refused, replica.assign, "a", 1)
        error_of(Refused, replica.assign_all, ("b", 1), ("a", 1))
        replica.assign_all()
        replica.assign_named()
        replica.preview("b", 5)
        replica.use_level(1)
        self.assertEqual([replica.records(), replica.total], [before, 2])
        replica.take_back()
        error_of(NothingToTakeBack, replica.take_back)
        self.assertEqual([replica.records(), replica.total], [[*before, ("back", "a")], 3])

    def test_each_received_state(self):
        replica = linked()
        state = State(Space(SHEET), [(0, 5, "bo", "a", 1)])
        for _ in range(3):
            replica.receive(state)
        self.assertEqual(replica.records()[1:], [("receive", ("a", "s")), ("receive", ()), ("receive", ())])
        self.assertEqual(replica.total, 4)

    def test_a_received_state_that_changes_nothing(self):
        replica = linked()
        replica.assign("a", 1)
        replica.receive(State(Space(SHEET)))
        self.assertEqual(replica.records()[-1], ("receive", ()))
        replica.take_back()
        self.assertEqual(replica.value_of("a"), 0)

    def test_the_last_ones_and_the_total(self):
        for most in [1, 2, 3, 20, 99, 100]:
            replica = linked(most=most)
            wanted = [("equation", (1, 1, -1), "s")]
            for value in range(105):
                replica.assign("a", value)
                wanted.append(("assign", "a", value, 0, "a"))
                if value in (0, 1, 5, 19, 20, 104):
                    self.assertEqual(replica.records(), wanted[-most:])
                    self.assertEqual(replica.total, len(wanted))

    def test_twenty_by_itself(self):
        replica = RecordingReplica("ann", SHEET)
        replica.assign_all(*[("a", value) for value in range(30)])
        self.assertEqual(replica.records(), [("assign", "a", value, 0, "a") for value in range(10, 30)])
        self.assertEqual(replica.total, 30)

    def test_as_a_replica(self):
        source = random.Random(50)
        for _ in range(30):
            width = source.randint(1, 5)
            fields = list(linear.LETTERS[:width])
            one, other = Replica("ann", Sheet(fields)), RecordingReplica("ann", Sheet(fields))
            calls = [("assign", source.choice(fields), source.choice(VALUES), source.choice(LEVELS)) for _ in range(12)]
            calls[3] = calls[8] = ("add", linear.random_row(source, width))
            calls[6] = ("receive", drawn_replica(source, width).state())
            for call in calls:
                self.assertEqual(done(one, call), done(other, call))
                self.assertEqual([one.state(), one.default_level], [other.state(), other.default_level])


def done(replica, call):
    """What a replica returns for a call, or the cause why it refuses it."""
    try:
        if call[0] == "assign":
            return replica.assign(call[1], call[2], level=call[3])
        return replica.add_equation(call[1]) if call[0] == "add" else replica.receive(call[1])
    except Refused as error:
        return (error.field, error.level, error.cause)


class ErrorTest(unittest.TestCase):
    def test_names_first(self):
        for value in no_names():
            self.assertEqual(error_of(InvalidName, RecordingReplica, value, SHEET).value, value)
            self.assertEqual(error_of(InvalidName, RecordingReplica, value, SHEET, most=0).value, value)

    def test_then_counts(self):
        for value in [*other_kinds(), 0, -1, 101, 10 ** 50, "", "1", "a", (), (1,), (1, 2)]:
            self.assertEqual(error_of(InvalidCount, RecordingReplica, "ann", SHEET, most=value).value, value)

    def test_most_by_name_only(self):
        with self.assertRaises(TypeError):
            RecordingReplica("ann", SHEET, 5)
        self.assertEqual(RecordingReplica(most=1, sheet=SHEET, name="bo").name, "bo")


class EqualityTest(unittest.TestCase):
    def test_without_records(self):
        self.assertTrue(RecordingReplica("ann", SHEET) == RecordingReplica("ann", SHEET))
        # How many records are kept does not count.
        self.assertTrue(RecordingReplica("ann", SHEET) == RecordingReplica("ann", SHEET, most=1))
        self.assertFalse(RecordingReplica("ann", SHEET) == RecordingReplica("bo", SHEET))
        self.assertFalse(RecordingReplica("ann", SHEET) != RecordingReplica("ann", SHEET))

    def test_with_records(self):
        one, other = linked(), linked()
        self.assertTrue(one == other)
        one.receive(State(Space(SHEET)))
        self.assertFalse(one == other)
        other.receive(State(Space(SHEET)))
        self.assertTrue(one == other)
        other.use_level(1)
        self.assertFalse(one == other)
        self.assertTrue(one != other)

    def test_the_same_states_with_other_records(self):
        one, other = linked(), linked()
        one.assign("a", 1)
        other.receive(one.state())
        self.assertEqual([one.state(), one.total], [other.state(), other.total])
        self.assertFalse(one == other)

    def test_the_same_records_with_other_totals(self):
        one, other = linked(most=1), linked(most=1)
        for replica, count in [(one, 1), (other, 2)]:
            for _ in range(count):
                replica.receive(State(Space(SHEET)))
        self.assertEqual([one.state(), one.records()], [other.state(), other.records()])
        self.assertFalse(one == other)

    def test_other_kinds(self):
        replica = RecordingReplica("ann", SHEET)
        plain = Replica("ann", SHEET)
        for other in [*other_kinds(), plain, replica.state(), "ann", 0]:
            self.assertIs(replica == other, False, repr(other))
            self.assertIs(other == replica, False, repr(other))
            self.assertIs(replica != other, True)
        self.assertIs(plain.__eq__(replica), False)

    def test_repr(self):
        self.assertEqual(repr(RecordingReplica("ann", SHEET)), "RecordingReplica('ann', {'a': 0, 'b': 0, 's': 0})")
        replica = linked()
        replica.assign("s", (1, 2))
        self.assertEqual(repr(replica), "RecordingReplica('ann', {'a': 0, 'b': (1, 2), 's': (1, 2)})")


class SharingTest(unittest.TestCase):
    def test_records_belong_to_the_caller(self):
        replica = linked()
        replica.assign("a", 1)
        before = replica.records()
        spoil(replica.records())
        self.assertEqual([replica.records(), replica.total], [before, 2])
        self.assertIs(before.__class__, list)

    def test_clones(self):
        replica = linked(most=2)
        replica.assign("a", 1)
        replica.assign("b", 1)
        twin = replica.clone()
        self.assertIs(twin.__class__, RecordingReplica)
        self.assertEqual([twin == replica, twin.records(), twin.total], [True, replica.records(), 3])
        twin.take_back()
        twin.assign("b", 2)
        self.assertEqual(twin.records(), [("back", "b"), ("assign", "b", 2, 0, "b")])
        self.assertEqual([twin.total, replica.total], [5, 3])
        self.assertEqual(replica.records(), [("assign", "a", 1, 0, "a"), ("assign", "b", 1, 0, "b")])


if __name__ == "__main__":
    unittest.main()
