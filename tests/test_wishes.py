"""Wishes: points [22] and [23] of the document, WISHES of point [4], and the file of the interface."""

import itertools
import random
import unittest

import linear
from histories import drawn_history, drawn_replicas
from lastheld.errors import Impossible, InvalidLevel, InvalidWishes, NothingToTakeBack, UnknownReplica
from lastheld.groups import Group
from lastheld.rationals import times
from lastheld.replicas import RecordingReplica, Replica
from lastheld.sheets import Sheet
from lastheld.spaces import Space
from lastheld.states import State
from lastheld.wishes import can_be_met, conflict, fulfil, fulfil_in_group, is_conflict
from values import EqualToAll, error_of, no_fields, no_levels, no_lists, no_names, no_numbers, other_kinds, spoil

SHEET = Sheet(["a", "b", "s"])
NUMBERS = [0, 0, 1, 2, -3, (1, 2)]


def linked(*pairs, kind=Replica, level=0):
    """A new replica in which s is the sum of a and b, after some assignments."""
    replica = kind("ann", SHEET)
    replica.add_equation((1, 1, -1))
    for field, value in pairs:
        replica.assign(field, value, level=level)
    return replica


def drawn_wishes(source, state):
    """Wishes that can be met for the most part, as the numbers are those of the state, or small ones."""
    fields = state.space().sheet().fields()
    chosen = source.sample(fields, source.randint(0, len(fields)))
    return [(field, source.choice([state.value_of(field), source.choice(NUMBERS)])) for field in chosen]


def fields_above(state, level):
    return [setting[3] for setting in state.held() if setting[0] > level]


def is_solvable(state, wishes, level):
    """Whether there is a solution as point [22] says, found with fractions."""
    fields = state.space().sheet().fields()
    wanted = [*wishes, *[(field, state.value_of(field)) for field in fields_above(state, level)]]
    rows = [[*row, 0] for row in state.space().rows()]
    # With one more unknown that stands for 1.
    for field, value in wanted:
        rows.append([*[int(own == field) for own in fields], -linear.fraction_of(value)])
    return any([solution[-1] != 0 for solution in linear.solutions(len(fields) + 1, rows)])


def is_own_conflict(state, wishes, value, level):
    """Whether two dicts of fields and numbers are a conflict by the words of point [22]."""
    first, second = value
    if not set(first) <= {field for field, _ in wishes} or not set(second) <= set(fields_above(state, level)):
        return False
    fields = state.space().sheet().fields()
    rows = state.space().rows()
    mixed = [linear.fraction_of(first.get(field, 0)) - linear.fraction_of(second.get(field, 0)) for field in fields]
    if linear.rank(len(fields), [*rows, mixed]) != linear.rank(len(fields), rows) or 0 in [*first.values(), *second.values()]:
        return False
    return own_sum(first, dict(wishes)) != own_sum(second, state.all_values())


def own_sum(numbers, values):
    return sum([linear.fraction_of(numbers[field]) * linear.fraction_of(values[field]) for field in numbers])


class MeetTest(unittest.TestCase):
    def test_by_the_definition(self):
        source = random.Random(90)
        counts = {}
        for replica in drawn_replicas(200, 91):
            state = replica.state()
            for level in [0, 1, 2]:
                wishes = drawn_wishes(source, state)
                wanted = is_solvable(state, wishes, level)
                self.assertIs(can_be_met(state, wishes, level=level), wanted)
                found = conflict(state, tuple(wishes), level=level)
                self.assertEqual(found is None, wanted)
                counts[level, wanted] = counts.get((level, wanted), 0) + 1
                if not wanted:
                    self.assert_conflict(state, wishes, found, level)
        self.assertGreater(min(counts.values()), 30)
        self.assertEqual(len(counts), 6)

    def assert_conflict(self, state, wishes, found, level):
        self.assertEqual([found.__class__, found[0].__class__, found[1].__class__], [tuple, dict, dict])
        self.assertTrue(is_own_conflict(state, wishes, found, level))
        self.assertIs(is_conflict(state, wishes, found, level=level), True)

    def test_never_both(self):
        source = random.Random(92)
        for replica in drawn_replicas(60, 93):
            state = replica.state()
            for level in [0, 1, 2]:
                wishes = drawn_wishes(source, state)
                if can_be_met(state, wishes, level=level):
                    fields = [field for field, _ in wishes][:2]
                    above = fields_above(state, level)[:2]
                    for numbers in itertools.product([0, 1, -1, 2], repeat=len(fields) + len(above)):
                        parts = list(zip(fields + above, numbers))
                        first = {field: number for field, number in parts[:len(fields)] if number != 0}
                        second = {field: number for field, number in parts[len(fields):] if number != 0}
                        self.assertIs(is_conflict(state, wishes, (first, second), level=level), False)

    def test_known_wishes(self):
        state = linked().state()
        wishes = [("a", 1), ("b", 2), ("s", 4)]
        self.assertIs(can_be_met(state, wishes), False)
        self.assertIs(can_be_met(state, wishes[:2]), True)
        self.assertIs(can_be_met(state, [("a", 1), ("b", 2), ("s", 3)]), True)
        fixed = linked(("s", 10), level=2).state()
        self.assertEqual([can_be_met(fixed, wishes[:2], level=level) for level in [0, 1, 2]], [False, False, True])
        important = linked(("s", 10), level=1).state()
        self.assertEqual([can_be_met(important, wishes[:2], level=level) for level in [0, 1, 2]], [False, True, True])
        self.assertIs(can_be_met(fixed, wishes[:2]), False)
        self.assertIs(can_be_met(fixed, [("a", 1), ("b", 9)]), True)
        self.assertIs(can_be_met(fixed, [("s", 10)]), True)

    def test_no_wishes(self):
        for state in [State(Space(SHEET)), linked(("a", 3), ("b", 4), level=2).state()]:
            self.assertIs(can_be_met(state, []), True)
            self.assertIsNone(conflict(state, ()))
            self.assertIs(is_conflict(state, [], ({}, {})), False)

    def test_a_wished_field_of_a_greater_level(self):
        state = linked(("s", 10), level=2).state()
        self.assertEqual(conflict(state, [("s", 9)]), ({"s": 1}, {"s": 1}))
        self.assertIs(is_conflict(state, [("s", 9)], ({"s": (1, 2)}, {"s": (1, 2)})), True)
        self.assertIs(is_conflict(state, [("s", 9)], ({"s": 1}, {"s": 1}), level=2), False)

    def test_zero_fields(self):
        state = State(Space(SHEET, [(1, 0, 0)]))
        self.assertIs(can_be_met(state, [("a", 0)]), True)
        self.assertIs(can_be_met(state, [("a", 1)], level=2), False)
        self.assertIs(is_conflict(state, [("a", 1)], ({"a": 5}, {})), True)


class IsConflictTest(unittest.TestCase):
    def test_spoilt_conflicts(self):
        source = random.Random(94)
        counts = {True: 0, False: 0}
        for replica in drawn_replicas(150, 95):
            state = replica.state()
            level = source.choice([0, 1])
            wishes = drawn_wishes(source, state)
            found = conflict(state, wishes, level=level)
            if found is not None:
                for value in variants(source, found, state):
                    wanted = is_own_conflict(state, wishes, value, level)
                    self.assertIs(is_conflict(state, wishes, value, level=level), wanted)
                    counts[wanted] += 1
        self.assertGreater(min(counts.values()), 60)

    def test_any_value(self):
        state = linked(("s", 10), level=2).state()
        wishes = [("a", 1), ("b", 2)]
        good = ({"a": 2, "b": 2}, {"s": 2})
        self.assertIs(is_conflict(state, wishes, good), True)
        self.assertIs(is_conflict(value=good, wishes=wishes, state=state, level=1), True)
        self.assertIs(is_conflict(state, wishes, good, level=2), False)
        wrong = [
            *other_kinds(), 0, "", "ab", (), good[:1], (*good, {}), list(good), (good,), (list(good[0]), good[1]),
            ({"a": 2, "b": 2, "s": 0}, {"s": 2}), ({"a": 2, "b": 2}, {"s": 2, "a": 0}), ({}, {}), (good[0], {}),
            ({"a": 2, "b": 2, "s": -2}, {}), good[::-1], ({"a": True, "b": True}, {"s": True}),
            ({"a": 1, "b": 1}, {"s": True}), ({"a": (2, 2), "b": 1}, {"s": 1}), ({"a": "2", "b": 2}, {"s": 2}),
            ({"a": 2, "b": 2, "x": 1}, {"s": 2}), ({"a": 2, "b": 2, 1: 1}, {"s": 2}), ({"a": 2, "b": 2, None: 1}, {"s": 2}),
            ({"b": 2, EqualToAll(): 2}, {"s": 2}), (good[0], {EqualToAll(): 2}), ({"a": [2], "b": 2}, {"s": 2}),
            ({"a": 2, "b": 1}, {"s": 2}), ({"a": 2, "b": 2}, {"s": 3}), ({"a": 2, "b": 2}, {"s": (2, 1)}), (None, None),
        ]
        for value in wrong:
            self.assertIs(is_conflict(state, wishes, value), False, repr(value))
        self.assertIs(is_conflict(state, [("a", 1), ("b", 9)], good), False)

    def test_fields_in_common(self):
        # The sums of a + b and of s are equal, and so are those with a added on both sides.
        state = linked(("a", 1), ("s", 10), level=2).state()
        wishes = [("a", 1), ("b", 2)]
        self.assertIs(is_conflict(state, wishes, ({"a": 1, "b": 1}, {"s": 1})), True)
        self.assertIs(is_conflict(state, wishes, ({"a": 2, "b": 1}, {"s": 1, "a": 1})), True)
        self.assertIs(is_conflict(state, wishes, ({"b": 1}, {"s": 1, "a": -1})), True)
        self.assertIs(is_conflict(state, wishes, ({"a": 1}, {"a": 1})), False)

    def test_numbers_are_not_zero(self):
        state = linked(("a", 1), ("s", 10), level=2).state()
        wishes = [("a", 1), ("b", 2), ("s", 10)]
        self.assertIs(is_conflict(state, wishes, ({"a": 1, "b": 1}, {"s": 1})), True)
        self.assertIs(is_conflict(state, wishes, ({"a": 1, "b": 1, "s": 0}, {"s": 1})), False)
        self.assertIs(is_conflict(state, wishes, ({"a": 1, "b": 1}, {"s": 1, "a": 0})), False)


def variants(source, value, state):
    """Values near to a conflict: multiples, numbers that are changed, fields that are left out or added."""
    first, second = value
    factor = source.choice([-1, 2, (1, 3)])
    yield tuple([{field: times(factor, part[field]) for field in part} for part in value])
    for at, part in enumerate(value):
        for field in list(part)[:2]:
            for changed in [{own: part[own] for own in part if own != field}, {**part, field: times(part[field], 2)}]:
                yield (changed, second) if at == 0 else (first, changed)
        other = source.choice(state.space().sheet().fields())
        yield ({**first, other: 1}, second) if at == 0 else (first, {**second, other: 1})
    yield (second, first)
    moved = {field: times(-1, second[field]) for field in second if field not in first}
    yield ({**first, **moved}, {field: second[field] for field in second if field in first})


class ErrorTest(unittest.TestCase):
    def calls(self, state, replica, group):
        return [
            lambda wishes, **level: can_be_met(state, wishes, **level),
            lambda wishes, **level: conflict(state, wishes, **level),
            lambda wishes, **level: is_conflict(state, wishes, ({}, {}), **level),
            lambda wishes, **level: fulfil(replica, wishes, **level),
            lambda wishes, **level: fulfil_in_group(group, "ann", wishes, **level),
        ]

    def setUp(self):
        self.replica = linked(("a", 3), kind=RecordingReplica)
        self.group = Group(SHEET, ["ann"])
        self.group.assign("ann", "a", 3)
        self.before = [self.replica.clone(), self.group.clone()]

    def tearDown(self):
        self.assertEqual([self.replica, self.group], self.before)

    def test_wishes_first(self):
        good = [("a", 1), ("b", (1, 2))]
        items = [*other_kinds(), 0, "", "a", "a1", (), ("a",), ("s", 1, 1), ["s", 1], (1, "s"), (("s", 1),), ("a", 1), ("b", 7)]
        items += [(field, 1) for field in [*no_fields(), "c"]] + [("s", value) for value in no_numbers()]
        for call in self.calls(self.replica.state(), self.replica, self.group):
            for value in no_lists():
                self.assertEqual(error_of(InvalidWishes, call, value).index, -1)
                self.assertEqual(error_of(InvalidWishes, call, value, level=9).index, -1)
            for item in items:
                self.assertEqual(error_of(InvalidWishes, call, [*good, item]).index, 2)
                self.assertEqual(error_of(InvalidWishes, call, (*good, item, None), level=True).index, 2)
            self.assertEqual(error_of(InvalidWishes, call, ("a", 1)).index, 0)

    def test_then_levels(self):
        impossible = [("a", 1), ("b", 2), ("s", 9)]
        for call in self.calls(self.replica.state(), self.replica, self.group):
            for value in no_levels():
                self.assertEqual(error_of(InvalidLevel, call, impossible, level=value).value, value)
                self.assertEqual(error_of(InvalidLevel, call, [], level=value).value, value)

    def test_replicas_first(self):
        for value in [*no_names(), "bo", EqualToAll()]:
            self.assertEqual(error_of(UnknownReplica, fulfil_in_group, self.group, value, None, level=9).value, value)

    def test_level_by_name_only(self):
        for function in [can_be_met, conflict]:
            with self.assertRaises(TypeError):
                function(self.replica.state(), [], 0)
        with self.assertRaises(TypeError):
            is_conflict(self.replica.state(), [], ({}, {}), 0)
        with self.assertRaises(TypeError):
            fulfil(self.replica, [], 0)
        with self.assertRaises(TypeError):
            fulfil_in_group(self.group, "ann", [], 0)


class FulfilTest(unittest.TestCase):
    def assigned_fields(self, state, wishes, level):
        """The fields that are assigned, by the words of point [23]."""
        found = linear.solutions(state.space().sheet().width, state.space().rows())
        fields = state.space().sheet().fields()
        places = [fields.index(field) for field in fields_above(state, level)]
        chosen = []
        for field, value in wishes:
            if not linear.determine(found, places, fields.index(field)):
                chosen.append((field, value))
            places.append(fields.index(field))
        return chosen

    def assert_fulfilled(self, before, after, wishes, level, result):
        for field, value in wishes:
            self.assertEqual(after.value_of(field), value)
        wished = [field for field, _ in wishes]
        other = [field for field in before.space().sheet().fields()
                 if field in before.base() and field not in after.base() and field not in wished]
        self.assertEqual(result, other)
        above = fields_above(before, level)
        for field in above:
            self.assertEqual(after.setting_of(field), before.setting_of(field))
        count = len([field for field in wished if field in before.base() and field not in above])
        self.assertEqual(len(other), len(self.assigned_fields(before, wishes, level)) - count)

    def test_drawn_wishes(self):
        source = random.Random(96)
        counts = {True: 0, False: 0}
        for replica in drawn_replicas(200, 97):
            level = source.choice([0, 1, 2])
            before, twin = replica.state(), replica.clone()
            wishes = drawn_wishes(source, before)
            counts[can_be_met(before, wishes, level=level)] += 1
            if not can_be_met(before, wishes, level=level):
                error = error_of(Impossible, fulfil, replica, wishes, level=level)
                self.assertIs(is_conflict(before, wishes, error.conflict, level=level), True)
                self.assertEqual(replica, twin)
                continue
            result = fulfil(replica, wishes, level=level)
            self.assert_fulfilled(before, replica.state(), wishes, level, result)
            twin.assign_all(*self.assigned_fields(before, wishes, level), level=level)
            self.assertEqual(replica, twin)
            self.assert_any_sequence(source, before, wishes, level, result)
        self.assertGreater(min(counts.values()), 50)

    def assert_any_sequence(self, source, before, wishes, level, result):
        """The same other fields leave whatever the sequence is."""
        for _ in range(3):
            mixed = source.sample(wishes, len(wishes))
            replica = Replica("cy", before.space().sheet())
            replica.receive(before)
            self.assertEqual(fulfil(replica, mixed, level=level), result)
            self.assert_fulfilled(before, replica.state(), mixed, level, result)

    def test_in_groups(self):
        source = random.Random(98)
        counts = {True: 0, False: 0}
        for _ in range(60):
            group = drawn_history(source, calls=20)[0].group
            name, level = source.choice(group.names()), source.choice([0, 1, 2])
            before, twin = group.state(name), group.clone()
            wishes = drawn_wishes(source, before)
            known = group.known_settings(name)
            counts[can_be_met(before, wishes, level=level)] += 1
            if not can_be_met(before, wishes, level=level):
                error = error_of(Impossible, fulfil_in_group, group, name, wishes, level=level)
                self.assertIs(is_conflict(before, wishes, error.conflict, level=level), True)
                self.assertEqual([group, group.known_settings(name)], [twin, known])
                continue
            result = fulfil_in_group(group, name, wishes, level=level)
            self.assert_fulfilled(before, group.state(name), wishes, level, result)
            for field, value in self.assigned_fields(before, wishes, level):
                twin.assign(name, field, value, level=level)
            self.assertEqual([group, group.known_settings(name)], [twin, twin.known_settings(name)])
            self.assertEqual(group.state(name), group.full_state(name))
        self.assertGreater(min(counts.values()), 10)

    def test_known_wishes(self):
        replica = linked()
        self.assertEqual(fulfil(replica, [("a", 1), ("s", 5)]), ["b"])
        self.assertEqual(replica.all_values(), {"a": 1, "b": 4, "s": 5})
        self.assertEqual(replica.state().held(), [(0, 2, "ann", "s", 5), (0, 1, "ann", "a", 1)])
        self.assertEqual(fulfil(replica, [("a", 1), ("b", 2), ("s", 3)], level=1), [])
        self.assertEqual(replica.state().held(), [(1, 4, "ann", "b", 2), (1, 3, "ann", "a", 1)])
        self.assertEqual(fulfil(level=2, wishes=(("s", 7),), replica=replica), ["a"])
        self.assertEqual(replica.all_values(), {"a": 5, "b": 2, "s": 7})

    def test_no_wishes(self):
        replica = linked(("a", 3))
        before = replica.clone()
        self.assertEqual([fulfil(replica, []), fulfil(replica, (), level=2)], [[], []])
        self.assertEqual(replica, before)
        replica.take_back()

    def test_the_default_level_does_not_matter(self):
        replica = linked()
        replica.use_level(2)
        fulfil(replica, [("a", 1)])
        self.assertEqual(replica.state().held(), [(0, 1, "ann", "a", 1)])
        self.assertEqual(replica.default_level, 2)

    def test_nothing_to_take_back(self):
        replica = linked(("a", 3))
        fulfil(replica, [("a", 1)])
        error_of(NothingToTakeBack, replica.take_back)
        replica = linked(("s", 3), level=2)
        # The only wished field follows from a greater level, so that nothing is assigned.
        self.assertEqual([fulfil(replica, [("s", 3)], level=1), replica.clock], [[], 1])
        replica.take_back()

    def test_records(self):
        replica = linked(("b", 9), kind=RecordingReplica)
        fulfil(replica, [("s", 5), ("a", (1, 2))], level=1)
        self.assertEqual(replica.records()[-2:], [("assign", "s", 5, 1, "a"), ("assign", "a", (1, 2), 1, "b")])
        before = replica.clone()
        error_of(Impossible, fulfil, replica, [("s", 6), ("b", 1)])
        self.assertEqual([replica, replica.total], [before, 4])

    def test_conflicts_belong_to_the_caller(self):
        replica = linked(("s", 10), level=2)
        wishes = [("a", 1), ("b", 2)]
        error = error_of(Impossible, fulfil, replica, wishes)
        spoil(error.conflict)
        spoil(conflict(replica.state(), wishes))
        self.assertIs(is_conflict(replica.state(), wishes, conflict(replica.state(), wishes)), True)
        self.assertEqual(replica, linked(("s", 10), level=2))
        self.assertEqual(wishes, [("a", 1), ("b", 2)])


if __name__ == "__main__":
    unittest.main()
