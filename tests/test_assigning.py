"""Several assignments at once: assign_all and assign_named of the interface, point [14] of the document."""

import random
import unittest

from histories import LEVELS, drawn_replicas
from lastheld.errors import InvalidLevel, InvalidNumber, InvalidPairs, NothingToTakeBack, Refused, UnknownField
from lastheld.replicas import RecordingReplica, Replica
from lastheld.sheets import Sheet
from models import VALUES
from values import error_of, no_fields, no_levels, no_numbers, other_kinds

SHEET = Sheet(["a", "b", "s"])


def linked(kind=Replica):
    """A new replica in which s is the sum of a and b."""
    replica = kind("ann", SHEET)
    replica.add_equation((1, 1, -1))
    return replica


def one_by_one(replica, pairs, level):
    """What a copy of the replica tells if it assigns each alone: the fields that leave, or the error."""
    twin = replica.clone()
    leaving = []
    for field, value in pairs:
        try:
            leaving.append(twin.assign(field, value, level=level))
        except Refused as error:
            return (error, None)
    return (leaving, twin)


class AssignAllTest(unittest.TestCase):
    def assert_as_one_by_one(self, replica, method, pairs, level):
        before = replica.clone()
        wanted, twin = one_by_one(replica, pairs, level)
        if twin is None:
            error = error_of(Refused, method, level)
            self.assertEqual([error.field, error.level, error.cause], [wanted.field, wanted.level, wanted.cause])
            self.assertEqual(replica, before)
            return False
        self.assertEqual(method(level), wanted)
        self.assertEqual(replica, twin)
        return True

    def test_drawn_pairs(self):
        source = random.Random(31)
        counts = {True: 0, False: 0}
        for replica in drawn_replicas(150, 30):
            fields = list(replica.all_values())
            pairs = [(source.choice(fields), source.choice(VALUES)) for _ in range(source.randint(0, 5))]
            done = self.assert_as_one_by_one(replica, lambda level: replica.assign_all(*pairs, level=level), pairs,
                                             source.choice([None, *LEVELS]))
            counts[done] += 1
        self.assertGreater(min(counts.values()), 25)

    def test_drawn_names(self):
        source = random.Random(33)
        counts = {True: 0, False: 0}
        for replica in drawn_replicas(150, 32):
            fields = list(replica.all_values())
            chosen = source.sample(fields, source.randint(0, len(fields)))
            values = {field: source.choice(VALUES) for field in chosen}
            done = self.assert_as_one_by_one(replica, lambda level: replica.assign_named(level=level, **values),
                                             list(values.items()), source.choice([None, *LEVELS]))
            counts[done] += 1
        self.assertGreater(min(counts.values()), 25)

    def test_none(self):
        replica = linked(RecordingReplica)
        replica.assign("a", 1)
        before = replica.clone()
        self.assertEqual([replica.assign_all(), replica.assign_named(), replica.assign_all(level=2)], [[], [], []])
        self.assertEqual([replica, replica.clock], [before, 1])

    def test_several(self):
        replica = linked()
        self.assertEqual(replica.assign_all(("a", 1), ("b", 2)), ["a", "b"])
        self.assertEqual(replica.assign_named(s=(1, 2), a=5), ["a", "b"])
        self.assertEqual(replica.all_values(), {"a": 5, "b": (-9, 2), "s": (1, 2)})
        self.assertEqual([replica.clock, replica.state().held()],
                         [4, [(0, 4, "ann", "a", 5), (0, 3, "ann", "s", (1, 2))]])

    def test_the_order_in_which_names_are_passed(self):
        one, other = linked(), linked()
        self.assertEqual(one.assign_named(a=1, b=2, s=9), ["a", "b", "a"])
        self.assertEqual(other.assign_named(s=9, b=2, a=1), ["b", "a", "s"])
        self.assertEqual([one.all_values(), other.all_values()], [{"a": 7, "b": 2, "s": 9}, {"a": 1, "b": 2, "s": 3}])

    def test_the_same_field_several_times(self):
        replica = linked()
        self.assertEqual(replica.assign_all(("s", 1), ("s", 2), ("a", 7), ("s", 3)), ["b", "s", "a", "s"])
        self.assertEqual([replica.clock, replica.all_values()], [4, {"a": 7, "b": -4, "s": 3}])

    def test_levels(self):
        replica = linked()
        replica.use_level(1)
        replica.assign_all(("a", 1))
        replica.assign_named(b=1)
        self.assertEqual([setting[0] for setting in replica.state().held()], [1, 1])
        replica.assign_all(("a", 1), level=2)
        replica.assign_named(b=1, level=2)
        self.assertEqual([setting[0] for setting in replica.state().held()], [2, 2])

    def test_one_refused(self):
        replica = linked(RecordingReplica)
        replica.assign("b", 4, level=2)
        replica.assign("a", 5, level=1)
        before = replica.clone()
        error = error_of(Refused, replica.assign_all, ("s", 1), ("b", 2), ("a", 1), level=1)
        self.assertEqual([error.field, error.level, error.cause], ["b", 1, {"b": 1}])
        error = error_of(Refused, replica.assign_named, s=1, b=2, level=1)
        self.assertEqual([error.field, error.level, error.cause], ["b", 1, {"b": 1}])
        error = error_of(Refused, replica.assign_all, ("a", 1))
        self.assertEqual([error.field, error.level, error.cause], ["a", 0, {"a": 1}])
        self.assertEqual([replica, replica.clock, replica.records(), replica.total], [before, 2, before.records(), 3])
        # The last assignment can still be taken back.
        replica.take_back()
        self.assertEqual(replica.all_values(), {"a": 0, "b": 4, "s": 4})

    def test_refused_because_of_one_before(self):
        replica = linked()
        replica.assign("a", 1, level=2)
        before = replica.clone()
        # The first one makes s important, so that the second one would be refused at a lesser level only.
        self.assertEqual(replica.assign_all(("s", 5), ("b", 2), level=1), ["b", "s"])
        self.assertEqual(error_of(Refused, before.assign_all, ("s", 5), ("a", 2), level=1).field, "a")

    def test_nothing_to_take_back(self):
        for call in [lambda replica: replica.assign_all(("a", 2)), lambda replica: replica.assign_named(a=2)]:
            replica = linked()
            replica.assign("a", 1)
            call(replica)
            error_of(NothingToTakeBack, replica.take_back)


class AssignAllErrorTest(unittest.TestCase):
    def setUp(self):
        self.replica = linked(RecordingReplica)
        self.replica.assign("a", 1, level=2)
        self.before = self.replica.clone()

    def tearDown(self):
        self.assertEqual(self.replica, self.before)
        self.replica.take_back()
        self.assertEqual(self.replica.value_of("a"), 0)

    def test_pairs_first(self):
        wrong = [*other_kinds(), 0, "", "a", "a1", (), ("a",), ("a", 1, 1), ["a", 1], (1, "a"), (("a", 1),)]
        wrong += [(field, 1) for field in [*no_fields(), "c"]] + [("a", value) for value in no_numbers()]
        for value in wrong:
            self.assertEqual(error_of(InvalidPairs, self.replica.assign_all, value).index, 0)
            found = error_of(InvalidPairs, self.replica.assign_all, ("a", 1), ("b", 1), value, value, level=7)
            self.assertEqual(found.index, 2)

    def test_then_levels(self):
        for value in no_levels():
            if value is not None:
                for pairs in [[], [("a", 5)]]:
                    found = error_of(InvalidLevel, self.replica.assign_all, *pairs, level=value)
                    self.assertEqual(found.value, value)
                    found = error_of(InvalidLevel, self.replica.assign_named, level=value, **dict(pairs))
                    self.assertEqual(found.value, value)

    def test_names_first(self):
        for name in ["c", "A", "ann", "abcdefghi", "value", "field", "pairs", "values"]:
            found = error_of(UnknownField, self.replica.assign_named, a="x", **{name: 1}, level=9)
            self.assertEqual(found.value, name)
        found = error_of(UnknownField, self.replica.assign_named, a=None, y=1, x=1)
        self.assertEqual(found.value, "y")

    def test_then_values(self):
        for value in no_numbers():
            found = error_of(InvalidNumber, self.replica.assign_named, b=1, a=value, s=None, level=9)
            self.assertEqual(found.value, value)

    def test_by_name_only(self):
        with self.assertRaises(TypeError):
            self.replica.assign_named(("a", 1))
        with self.assertRaises(TypeError):
            self.replica.assign_named(1, a=1)


if __name__ == "__main__":
    unittest.main()
