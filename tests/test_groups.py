"""Groups: point [21] of the document, NOTHING LOST of point [4], and the class of the interface."""

import random
import unittest

from histories import History, all_told, drawn_call, drawn_history, new_group
from lastheld.errors import (InvalidEquation, InvalidLevel, InvalidNames, InvalidNumber, Refused, TooMany, UnknownField,
                             UnknownMessage, UnknownReplica)
from lastheld.groups import Group
from lastheld.joining import joined
from lastheld.replicas import Replica
from lastheld.settings import strongest_first
from lastheld.sheets import Sheet
from lastheld.spaces import Space
from lastheld.states import State
from values import (EqualToAll, error_of, no_equations, no_fields, no_levels, no_lists, no_names, no_numbers, other_kinds,
                    spoil)

SHEET = Sheet(["a", "b", "s"])
SIX = ["ann", "bo", "cy", "di", "ed", "fi"]


def pair(linked=True):
    """A new group of two, in which ann knows that s is the sum of a and b."""
    group = Group(SHEET, ["ann", "bo"])
    if linked:
        group.add_equation("ann", (1, 1, -1))
    return group


def no_replicas():
    """New values that are not the names of replicas of the group."""
    return [*no_names(), "cy", "a", "an", "annn", "ann bo", EqualToAll()]


def facts(group):
    """All that a group tells of itself."""
    return [group.names(), group.message_count, repr(group), [
        (group.state(name), group.known_settings(name), group.known_equations(name)) for name in group.names()]]


class NewGroupTest(unittest.TestCase):
    def test_a_new_group(self):
        for names in [["ann"], ["bo", "ann"], SIX, SIX[::-1]]:
            group = Group(SHEET, names)
            self.assertEqual([group.sheet(), group.names(), len(group), group.message_count],
                             [SHEET, names, len(names), 0])
            self.assertEqual(Group(SHEET, tuple(names)), group)
            self.assertEqual(repr(group), f"Group({names!r}, 0)")
            for name in names:
                self.assertEqual(group.state(name), State(Space(SHEET)))
                self.assertEqual([group.known_settings(name), group.known_equations(name)], [[], []])
                self.assertEqual(group.full_state(name), State(Space(SHEET)))

    def test_class_values(self):
        self.assertEqual([Group.MAX_REPLICAS, Group.MAX_MESSAGES], [6, 60])

    def test_repr(self):
        group = pair()
        group.send("bo")
        group.send("bo")
        self.assertEqual([repr(group), group.message_count], ["Group(['ann', 'bo'], 2)", 2])

    def test_wrong_lists_of_names(self):
        for value in [*no_lists(), [], (), [*SIX, "gy"], tuple([*SIX, "gy"]), [None] * 7, {"ann": 1}]:
            self.assertEqual(error_of(InvalidNames, Group, SHEET, value).index, -1, repr(value))

    def test_wrong_names(self):
        for value in no_names():
            self.assertEqual(error_of(InvalidNames, Group, SHEET, [value]).index, 0)
            self.assertEqual(error_of(InvalidNames, Group, SHEET, ("ann", "bo", value, None)).index, 2)
        self.assertEqual(error_of(InvalidNames, Group, SHEET, ["ann", "bo", "ann"]).index, 2)
        self.assertEqual(error_of(InvalidNames, Group, SHEET, ["ann", "ann", None]).index, 1)
        self.assertEqual(error_of(InvalidNames, Group, sheet=SHEET, names=["ann", None, "ann"]).index, 1)

    def test_names_of_fields(self):
        self.assertEqual(Group(SHEET, ["a", "b"]).names(), ["a", "b"])

    def test_later_changes_of_the_names(self):
        names = ["ann", "bo"]
        group = Group(SHEET, names)
        names.append("cy")
        self.assertEqual([group.names(), names], [["ann", "bo"], ["ann", "bo", "cy"]])
        spoil(group.names())
        self.assertEqual(group.names(), ["ann", "bo"])


class EqualityTest(unittest.TestCase):
    def test_equal_groups(self):
        one, other = pair(), pair()
        self.assertTrue(one == other)
        self.assertFalse(one != other)
        # Messages do not count, and equations that follow neither.
        one.send("ann")
        other.add_equation("ann", (2, 2, -2))
        self.assertTrue(one == other)

    def test_other_groups(self):
        one = pair()
        assigned, told = pair(), pair()
        assigned.assign("bo", "a", 0)
        told.add_equation("bo", (1, 1, -1))
        others = [pair(linked=False), assigned, told, Group(SHEET, ["ann"]), Group(SHEET, ["bo", "ann"]),
                  Group(SHEET, ["ann", "bo", "cy"]), Group(Sheet(["a", "s", "b"]), ["ann", "bo"])]
        for other in others:
            self.assertFalse(one == other)
            self.assertTrue(one != other)
        self.assertFalse(Group(SHEET, ["ann", "bo"]) == Group(SHEET, ["bo", "ann"]))
        self.assertFalse(Group(Sheet(["a", "b"]), ["ann"]) == Group(Sheet(["b", "a"]), ["ann"]))

    def test_values_of_other_kinds(self):
        group = pair()
        for other in [*other_kinds(), SHEET, group.state("ann"), Replica("ann", SHEET), ["ann", "bo"], 2, repr(group)]:
            self.assertIs(group == other, False, repr(other))
            self.assertIs(other == group, False, repr(other))
            self.assertIs(group != other, True)


class CallTest(unittest.TestCase):
    def test_as_of_the_replica(self):
        group = pair()
        replica = Replica("ann", SHEET)
        replica.add_equation((1, 1, -1))
        for field, value, level in [("a", 3, 0), ("b", (1, 2), 2), ("s", 10, 1), ("s", 4, 2), ("a", 5, 0)]:
            try:
                wanted = replica.assign(field, value, level=level)
            except Refused as error:
                found = error_of(Refused, group.assign, "ann", field, value, level=level)
                self.assertEqual([found.field, found.level, found.cause], [error.field, error.level, error.cause])
            else:
                self.assertEqual(group.assign("ann", field, value, level=level), wanted)
            self.assertEqual(group.state("ann"), replica.state())
        for equation in [(2, 2, -2), (1, -2, 0), (0, 0, 0)]:
            self.assertEqual(group.add_equation("ann", equation), replica.add_equation(equation))
        self.assertEqual(group.state("ann"), replica.state())
        self.assertEqual(group.state("bo"), State(Space(SHEET)))

    def test_the_level_is_ordinary_by_itself(self):
        group = pair()
        group.assign("ann", "a", 3)
        self.assertEqual(group.known_settings("ann"), [(0, 1, "ann", "a", 3)])
        with self.assertRaises(TypeError):
            group.assign("ann", "a", 3, 1)

    def test_known_messages(self):
        group = pair()
        group.assign("ann", "a", 3)
        self.assertEqual([group.send("ann"), group.deliver(0, to="bo")], [0, ["a", "s"]])
        self.assertEqual([group.assign("bo", "s", 10), group.assign("ann", "b", 4), group.send("bo")], ["b", "b", 1])
        self.assertEqual(group.deliver(1, to="ann"), ["a", "s"])
        self.assertEqual([group.deliver(1, to="ann"), group.deliver(0, to="ann"), group.deliver(1, to="bo")], [[], [], []])
        self.assertEqual(group.state("ann").all_values(), {"a": 6, "b": 4, "s": 10})

    def test_a_message_is_the_state_when_it_is_sent(self):
        group = pair()
        group.assign("ann", "a", 3)
        number = group.send("ann")
        group.assign("ann", "a", 4)
        group.add_equation("ann", (1, 0, 0))
        self.assertEqual(group.deliver(number, to="bo"), ["a", "s"])
        self.assertEqual(group.state("bo").all_values(), {"a": 3, "b": 0, "s": 3})
        self.assertEqual(group.known_settings("bo"), [(0, 1, "ann", "a", 3)])
        self.assertEqual(group.known_equations("bo"), [(1, 1, -1)])
        self.assertEqual(group.deliver(number, to="ann"), [])

    def test_a_replica_knows_what_the_sender_has_heard(self):
        group = Group(SHEET, ["ann", "bo", "cy"])
        group.assign("ann", "a", 3)
        group.assign("ann", "a", 4)
        group.add_equation("ann", (0, 0, 0))
        group.deliver(group.send("ann"), to="bo")
        group.deliver(group.send("bo"), to="cy")
        self.assertEqual(group.known_settings("cy"), [(0, 2, "ann", "a", 4), (0, 1, "ann", "a", 3)])
        self.assertEqual(group.known_equations("cy"), [(0, 0, 0)])

    def test_sixty_messages(self):
        group = pair()
        self.assertEqual([group.send("bo") for _ in range(60)], list(range(60)))
        before = facts(group)
        error = error_of(TooMany, group.send, "ann")
        self.assertEqual([error.kind, error.limit], ["messages", 60])
        self.assertEqual(error_of(UnknownReplica, group.send, "cy").value, "cy")
        self.assertEqual(facts(group), before)
        self.assertEqual([group.deliver(59, to="ann"), group.deliver(0, to="ann")], [[], []])
        self.assertEqual(group.clone().message_count, 60)

    def test_by_name(self):
        group = Group(names=["ann", "bo"], sheet=SHEET)
        self.assertEqual(group.add_equation(equation=(1, 1, -1), name="ann"), "s")
        self.assertEqual(group.assign(level=2, value=1, field="a", name="ann"), "a")
        self.assertEqual([group.send(name="ann"), group.deliver(to="bo", number=0)], [0, ["a", "s"]])
        self.assertEqual(group.state(name="bo"), group.full_state(name="ann"))
        self.assertEqual(group.known_settings(name="bo"), [(2, 1, "ann", "a", 1)])
        self.assertEqual(group.known_equations(name="bo"), [(1, 1, -1)])
        with self.assertRaises(TypeError):
            group.deliver(0, "bo")


class ErrorTest(unittest.TestCase):
    def setUp(self):
        self.group = pair()
        self.group.assign("ann", "a", 3, level=1)
        self.group.send("ann")
        self.before = facts(self.group)

    def tearDown(self):
        self.assertEqual(facts(self.group), self.before)

    def test_unknown_replicas(self):
        group = self.group
        for value in no_replicas():
            for call in [group.state, group.known_settings, group.known_equations, group.full_state, group.send]:
                self.assertEqual(error_of(UnknownReplica, call, value).value, value)
            self.assertEqual(error_of(UnknownReplica, group.assign, value, "x", None, level=9).value, value)
            self.assertEqual(error_of(UnknownReplica, group.add_equation, value, None).value, value)
            self.assertEqual(error_of(UnknownReplica, group.deliver, 0, to=value).value, value)

    def test_unknown_messages_first(self):
        for value in [*other_kinds(), -1, 1, 2, 60, 10 ** 50, "", "0", "a", (), (0,), (1, 2)]:
            self.assertEqual(error_of(UnknownMessage, self.group.deliver, value, to="ann").value, value)
            self.assertEqual(error_of(UnknownMessage, self.group.deliver, value, to=None).value, value)

    def test_errors_of_assign(self):
        for value in [*no_fields(), "c"]:
            self.assertEqual(error_of(UnknownField, self.group.assign, "ann", value, None, level=9).value, value)
        for value in no_numbers():
            self.assertEqual(error_of(InvalidNumber, self.group.assign, "ann", "a", value, level=9).value, value)
        for value in no_levels():
            self.assertEqual(error_of(InvalidLevel, self.group.assign, "ann", "a", 1, level=value).value, value)
        error = error_of(Refused, self.group.assign, "ann", "a", 1)
        self.assertEqual([error.field, error.level, error.cause], ["a", 0, {"a": 1}])

    def test_errors_of_add_equation(self):
        for value in no_equations():
            self.assertEqual(error_of(InvalidEquation, self.group.add_equation, "ann", value).value, value)


class KnownTest(unittest.TestCase):
    def assert_known(self, history, name):
        group = history.group
        settings = list(history.settings[name])
        self.assertEqual(group.known_settings(name), strongest_first(group.sheet(), settings))
        self.assertEqual(group.known_equations(name), sorted(history.equations[name]))
        whole = State(Space(group.sheet(), list(history.equations[name])), settings)
        self.assertEqual(whole.clock, max([setting[1] for setting in settings], default=0))
        self.assertEqual(group.full_state(name), whole)
        self.assertEqual(group.state(name), whole)

    def test_nothing_lost(self):
        source = random.Random(80)
        for _ in range(40):
            history = History(new_group(source))
            for _ in range(40):
                history.done(drawn_call(source, history.group))
                self.assert_known(history, source.choice(history.group.names()))
            for name in history.group.names():
                self.assert_known(history, name)

    def test_all_that_know_the_same_have_the_same_state(self):
        source = random.Random(81)
        for _ in range(40):
            group = drawn_history(source, calls=30)[0].group
            wanted = joined(*[group.state(name) for name in group.names()])
            all_told(source, group)
            for name in group.names():
                self.assertEqual(group.state(name), wanted)
                self.assertEqual(group.known_settings(name), group.known_settings(group.names()[0]))
                self.assertEqual(group.known_equations(name), group.known_equations(group.names()[0]))

    def test_deliveries(self):
        source = random.Random(82)
        for _ in range(40):
            group = drawn_history(source, calls=25)[0].group
            messages = {group.send(name): group.state(name) for name in group.names()}
            for _ in range(10):
                number, name = source.choice(list(messages)), source.choice(group.names())
                before = group.state(name)
                changed = group.deliver(number, to=name)
                self.assertEqual(group.state(name), joined(before, messages[number]))
                self.assertEqual(changed, before.changed_fields(group.state(name)))

    def test_equations_as_they_were_passed(self):
        group = pair(linked=False)
        given = [(2, 2, -2), (0, 0, 0), (1, 1, -1), (-1, -1, 1), (2, 2, -2), (0, 5, 0)]
        for equation in given:
            group.add_equation("ann", equation)
        self.assertEqual(group.known_equations("ann"), [(-1, -1, 1), (0, 0, 0), (0, 5, 0), (1, 1, -1), (2, 2, -2)])
        self.assertEqual(group.state("ann").space().rows(), [(1, 0, -1), (0, 1, 0)])

    def test_a_refused_assignment_makes_no_setting(self):
        group = pair()
        group.assign("ann", "a", 3, level=2)
        error_of(Refused, group.assign, "ann", "a", 1, level=1)
        self.assertEqual(group.known_settings("ann"), [(2, 1, "ann", "a", 3)])
        self.assertEqual(group.full_state("ann").clock, 1)

    def test_settings_that_are_not_held_are_known(self):
        group = pair()
        for field, value in [("a", 1), ("b", 2), ("s", 3), ("s", 4)]:
            group.assign("ann", field, value)
        self.assertEqual([setting[1] for setting in group.known_settings("ann")], [4, 3, 2, 1])
        self.assertEqual([setting[1] for setting in group.state("ann").held()], [4, 2])

    def test_results_belong_to_the_caller(self):
        group = pair()
        group.assign("ann", "a", 3)
        before = facts(group)
        group.send("ann")
        for result in [group.known_settings("ann"), group.known_equations("ann"), group.names(), group.deliver(0, to="bo")]:
            spoil(result)
        self.assertEqual([facts(group)[0], facts(group)[3][0]], [before[0], before[3][0]])


class CloneTest(unittest.TestCase):
    def test_equal_and_with_the_same_messages(self):
        source = random.Random(83)
        for _ in range(20):
            history, _ = drawn_history(source, calls=25)
            group = history.group
            twin = group.clone()
            self.assertTrue(twin == group)
            self.assertEqual(facts(twin), facts(group))
            for number in range(group.message_count):
                name = source.choice(group.names())
                self.assertEqual(twin.deliver(number, to=name), group.deliver(number, to=name))
            self.assertEqual(facts(twin), facts(group))

    def test_independent(self):
        source = random.Random(84)
        for _ in range(20):
            group = drawn_history(source, calls=25)[0].group
            before, twin = facts(group), group.clone()
            other = History(twin)
            other.messages = [(set(), set())] * twin.message_count
            for _ in range(15):
                other.done(drawn_call(source, twin))
            self.assertEqual(facts(group), before)
            between = facts(twin)
            all_told(source, group)
            self.assertEqual(facts(twin), between)


if __name__ == "__main__":
    unittest.main()
