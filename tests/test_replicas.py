"""Replicas and assigning: point [14] of the document, ONE AT A TIME of point [4], the class of the interface."""

import random
import sys
import unittest

import linear
from histories import LEVELS, drawn_replicas
from lastheld.errors import InvalidLevel, InvalidName, InvalidNumber, Refused, UnknownField
from lastheld.rationals import times
from lastheld.replicas import RecordingReplica, Replica
from lastheld.sheets import Sheet
from lastheld.spaces import Space
from lastheld.states import State
from models import VALUES
from values import error_of, no_fields, no_levels, no_names, no_numbers, other_kinds, spoil

SHEET = Sheet(["a", "b", "s"])
LONG = 10 ** 55


def linked(*pairs, level=None):
    """A new replica in which s is the sum of a and b, after some assignments."""
    replica = Replica("ann", SHEET)
    replica.add_equation((1, 1, -1))
    for field, value in pairs:
        replica.assign(field, value, level=level)
    return replica


class NewReplicaTest(unittest.TestCase):
    def test_a_new_replica(self):
        replica = Replica("ann", SHEET)
        self.assertEqual([replica.name, replica.clock, replica.freedom, replica.default_level], ["ann", 0, 3, 0])
        self.assertEqual(replica.state(), State(Space(SHEET)))
        self.assertEqual(replica.state().base(), ["a", "b", "s"])
        self.assertEqual(replica.all_values(), {"a": 0, "b": 0, "s": 0})
        self.assertEqual(list(Replica(sheet=Sheet(["s", "a"]), name="bo").all_values()), ["s", "a"])

    def test_properties_cannot_be_assigned(self):
        replica = Replica("ann", SHEET)
        for name in ["name", "clock", "freedom", "default_level"]:
            with self.assertRaises(AttributeError):
                setattr(replica, name, 1)

    def test_values(self):
        replica = linked(("a", (1, 2)), ("b", 4))
        self.assertEqual([replica.value_of(field) for field in "abs"], [(1, 2), 4, (9, 2)])
        self.assertEqual(replica.value_of(field="s"), (9, 2))
        self.assertEqual(replica.all_values(), {"a": (1, 2), "b": 4, "s": (9, 2)})
        self.assertEqual(list(replica.all_values()), ["a", "b", "s"])
        self.assertEqual([replica.clock, replica.freedom], [2, 2])
        for value in [*no_fields(), "c"]:
            self.assertEqual(error_of(UnknownField, replica.value_of, value).value, value)

    def test_wrong_names(self):
        for value in no_names():
            self.assertEqual(error_of(InvalidName, Replica, value, SHEET).value, value)
            self.assertEqual(error_of(InvalidName, Replica, name=value, sheet=SHEET).value, value)

    def test_repr(self):
        self.assertEqual(repr(Replica("ann", SHEET)), "Replica('ann', {'a': 0, 'b': 0, 's': 0})")
        self.assertEqual(repr(linked(("a", (-1, 2)))), "Replica('ann', {'a': (-1, 2), 'b': 0, 's': (-1, 2)})")
        replica = linked(("a", LONG))
        self.assertEqual(repr(replica), f"Replica('ann', {replica.all_values()!r})")

    def test_repr_of_results_that_are_passed_in_again(self):
        replica = Replica("ann", Sheet(["a", "b"]))
        replica.add_equation((1, -3))
        replica.assign("a", times(*[LONG + 1] * 90))
        # Python itself refuses to show integers of so many digits.
        shown = repr(replica)
        self.assertGreater(len(shown), 9000)
        limit = sys.get_int_max_str_digits()
        sys.set_int_max_str_digits(0)
        self.addCleanup(sys.set_int_max_str_digits, limit)
        self.assertEqual(shown, f"Replica('ann', {replica.all_values()!r})")


class EqualityTest(unittest.TestCase):
    def test_equal_replicas(self):
        one, other = linked(("a", 3), ("b", 4)), linked(("a", 3), ("b", 4))
        self.assertTrue(one == other)
        self.assertFalse(one != other)
        # What can be taken back does not count.
        other.receive(one.state())
        self.assertTrue(one == other)

    def test_other_replicas(self):
        one = linked(("a", 3), ("b", 4))
        use_level = linked(("a", 3), ("b", 4))
        use_level.use_level(1)
        others = [linked(("a", 3), ("b", 5)), linked(("a", 3)), linked(), Replica("ann", SHEET), use_level,
                  linked(("b", 4), ("a", 3)), linked(("a", 3), ("b", 4), ("b", 4))]
        for other in others:
            self.assertFalse(one == other)
            self.assertTrue(one != other)
        self.assertFalse(Replica("ann", SHEET) == Replica("bo", SHEET))
        self.assertFalse(Replica("ann", SHEET) == Replica("ann", Sheet(["a", "s", "b"])))

    def test_values_of_other_kinds(self):
        replica = Replica("ann", SHEET)
        recording = RecordingReplica("ann", SHEET)
        for other in [*other_kinds(), replica.state(), SHEET, "ann", 0, (), replica.all_values(), recording]:
            self.assertIs(replica == other, False, repr(other))
            self.assertIs(other == replica, False, repr(other))
            self.assertIs(replica != other, True)


class LevelTest(unittest.TestCase):
    def test_levels(self):
        self.assertEqual([Replica.ORDINARY, Replica.IMPORTANT, Replica.FIXED], [0, 1, 2])
        for value in [0, 1, 2]:
            self.assertIs(Replica.is_level(value), True)
            self.assertIs(Replica("ann", SHEET).is_level(value=value), True)
        for value in no_levels():
            self.assertIs(Replica.is_level(value), False, repr(value))

    def test_use_level(self):
        replica = linked()
        self.assertIsNone(replica.use_level(1))
        self.assertEqual(replica.default_level, 1)
        replica.assign("a", 3)
        self.assertEqual(replica.state().setting_of("a"), (1, 1, "ann", "a", 3))
        self.assertIsNone(replica.use_level(level=0))
        replica.assign("b", 3)
        self.assertEqual(replica.state().setting_of("b"), (0, 2, "ann", "b", 3))
        self.assertEqual(replica.clock, 2)

    def test_wrong_levels(self):
        replica = linked()
        replica.use_level(2)
        for value in no_levels():
            self.assertEqual(error_of(InvalidLevel, replica.use_level, value).value, value)
        self.assertEqual(replica.default_level, 2)


class AssignTest(unittest.TestCase):
    def assert_assigned(self, replica, field, value, level):
        """Assign, and compare with the state before, by the words of point [14]."""
        before = replica.state()
        setting = (level, before.clock + 1, replica.name, field, value)
        terms = list(before.expression(field))
        if not before.holds(setting):
            error = error_of(Refused, replica.assign, field, value, level=level)
            self.assertEqual([error.field, error.level, error.cause], [field, level, before.reason(setting)])
            self.assertEqual(replica.state(), before)
            return False
        preview = replica.preview(field, value, level=level)
        self.assertEqual(replica.state(), before)
        leaving = replica.assign(field, value, level=level)
        after = replica.state()
        self.assertEqual(leaving, field if field in before.base() else terms[-1])
        self.assertEqual(after, State(before.space(), before.held() + [setting]))
        self.assertEqual([replica.clock, replica.value_of(field)], [before.clock + 1, value])
        self.assertEqual(preview, (leaving, before.changed_fields(after)))
        self.assert_one_field_leaves(before, after, field, leaving)
        return True

    def assert_one_field_leaves(self, before, after, field, leaving):
        staying = [given for given in before.base() if given != leaving]
        self.assertEqual(sorted(after.base()), sorted([*staying, field]))
        for other in before.space().sheet().fields():
            if leaving not in before.expression(other) and other != field:
                self.assertEqual(after.value_of(other), before.value_of(other))

    def test_drawn_assignments(self):
        source = random.Random(21)
        counts = {True: 0, False: 0}
        for replica in drawn_replicas(120, 20):
            for field in source.sample(list(replica.all_values()), len(replica.all_values())):
                done = self.assert_assigned(replica, field, source.choice(VALUES), source.choice(LEVELS))
                counts[done] += 1
        self.assertGreater(min(counts.values()), 60)

    def test_known_assignments(self):
        replica = Replica("ann", SHEET)
        self.assertEqual(replica.add_equation((1, 1, -1)), "s")
        leaving = [replica.assign("a", 3), replica.assign("b", 4), replica.assign("s", 10), replica.assign("s", 11)]
        self.assertEqual(leaving, ["a", "b", "a", "s"])
        self.assertEqual(replica.all_values(), {"a": 7, "b": 4, "s": 11})
        self.assertEqual(replica.state().held(), [(0, 4, "ann", "s", 11), (0, 2, "ann", "b", 4)])
        self.assertEqual(replica.preview("a", 1), ("b", ["a", "b"]))

    def test_a_field_from_the_beginning_leaves_first(self):
        replica = linked(("a", 3))
        self.assertEqual(replica.assign("s", 5), "b")
        self.assertEqual(replica.all_values(), {"a": 3, "b": 2, "s": 5})

    def test_the_default_level_and_none(self):
        replica = linked()
        replica.use_level(2)
        replica.assign("a", 1)
        replica.assign("b", 1, level=None)
        replica.assign("b", 2, level=2)
        self.assertEqual([setting[0] for setting in replica.state().held()], [2, 2])
        error = error_of(Refused, replica.assign, "b", 9, level=0)
        self.assertEqual([error.field, error.level, error.cause], ["b", 0, {"b": 1}])
        replica.use_level(1)
        error = error_of(Refused, replica.assign, "s", 9)
        self.assertEqual([error.field, error.level, error.cause], ["s", 1, {"b": 1, "a": 1}])
        self.assertEqual(list(error.cause), ["b", "a"])
        self.assertEqual(error_of(Refused, replica.preview, "s", 9).level, 1)
        self.assertEqual(replica.preview("s", 9, level=2), ("a", ["a", "s"]))

    def test_zero_fields_are_refused(self):
        replica = linked()
        replica.add_equation((1, 0, 0))
        error = error_of(Refused, replica.assign, "a", 0, level=2)
        self.assertEqual([error.field, error.level, error.cause], ["a", 2, {}])

    def test_level_by_name_only(self):
        replica = linked()
        for method in [replica.assign, replica.preview]:
            with self.assertRaises(TypeError):
                method("a", 1, 0)
        self.assertEqual(replica.preview(level=1, value=1, field="s"), ("b", ["b", "s"]))
        self.assertEqual(replica.assign(level=1, value=1, field="s"), "b")

    def test_equal_values_and_clocks(self):
        replica = linked(("a", 3), ("a", 3))
        self.assertEqual([replica.clock, replica.state().held()], [2, [(0, 2, "ann", "a", 3)]])
        self.assertEqual(replica.preview("a", 3), ("a", []))


class AssignErrorTest(unittest.TestCase):
    def setUp(self):
        self.replica = linked(("a", 1), ("s", 3), level=2)
        self.before = self.replica.clone()

    def assert_error(self, wanted, field, value, level):
        for method in [self.replica.assign, self.replica.preview]:
            error = error_of(wanted, method, field, value, level=level)
            self.assertEqual(self.replica, self.before)
        return error

    def test_fields_first(self):
        for value in [*no_fields(), "c"]:
            self.assertEqual(self.assert_error(UnknownField, value, None, 5).value, value)

    def test_then_numbers(self):
        for value in no_numbers():
            self.assertEqual(self.assert_error(InvalidNumber, "b", value, 5).value, value)

    def test_then_levels(self):
        for value in no_levels():
            if value is not None:
                self.assertEqual(self.assert_error(InvalidLevel, "b", 5, value).value, value)

    def test_then_refused(self):
        error = self.assert_error(Refused, "b", 5, 1)
        self.assertEqual([error.field, error.level, error.cause], ["b", 1, {"s": 1, "a": -1}])
        error = self.assert_error(Refused, "b", 5, None)
        self.assertEqual([error.field, error.level, error.cause], ["b", 0, {"s": 1, "a": -1}])

    def test_the_cause_belongs_to_the_caller(self):
        spoil(self.assert_error(Refused, "b", 5, 1).cause)
        self.assertEqual(self.assert_error(Refused, "b", 5, 1).cause, {"s": 1, "a": -1})
        spoil(self.replica.all_values())
        spoil(self.replica.preview("a", 7, level=2))
        self.assertEqual(self.replica, self.before)
        self.assertEqual(self.replica.all_values(), {"a": 1, "b": 2, "s": 3})

    def test_values_of_long_numbers(self):
        self.assertEqual(self.replica.assign("b", (LONG, LONG + 1), level=2), "a")
        self.assertEqual(linear.fraction_of(self.replica.value_of("a")), 3 - linear.fraction_of((LONG, LONG + 1)))


if __name__ == "__main__":
    unittest.main()
