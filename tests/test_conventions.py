"""Point [2] of the document over the whole program: how arguments are passed, what belongs to whom, which error is first."""

import copy
import inspect
import unittest

from lastheld import checks, errors
from lastheld.console import Console
from lastheld.groups import Group
from lastheld.holding import base, held, holding_steps
from lastheld.joining import brings_nothing, forecast, join_steps, joined
from lastheld.names import is_integer, is_name
from lastheld.rationals import divided, is_less, is_number, minus, number, number_text, parse_number, plus, times
from lastheld.replicas import RecordingReplica, Replica
from lastheld.settings import is_setting, is_stronger, strongest_first
from lastheld.sheets import Sheet
from lastheld.spaces import Space
from lastheld.states import State
from lastheld.texts import parse_setting, parse_state, setting_text, state_text
from lastheld.wishes import can_be_met, conflict, fulfil, fulfil_in_group, is_conflict
from values import error_of, public_parts, spoil

SHEET = Sheet(["a", "b", "s"])
EQUATION = (1, 1, -1)
SPACE = Space(SHEET, [EQUATION])
SETTINGS = [(0, 1, "ann", "a", 3), (1, 2, "bo", "s", (1, 2)), (0, 3, "ann", "b", 4)]
WISHES = [("a", 1), ("b", 2), ("s", 4)]
STRANGE = State(Space(Sheet(["s", "b", "a"])))


def new_state():
    return State(Space(SHEET, [EQUATION]), SETTINGS)


def new_replica(kind=Replica):
    replica = kind("ann", SHEET)
    replica.add_equation(EQUATION)
    replica.assign("a", 3, level=1)
    replica.assign("s", 5)
    return replica


def new_recording():
    return new_replica(RecordingReplica)


def new_group():
    group = Group(SHEET, ["ann", "bo"])
    group.add_equation("ann", EQUATION)
    group.assign("ann", "a", 3, level=1)
    group.send("ann")
    group.assign("bo", "s", (1, 2), level=2)
    return group


def new_console():
    console = Console(new_group())
    console.execute("values ann")
    console.run(["send bo", "base ann"])
    return console


def function_calls():
    """Functions and classes with arguments by name, in the sequence of their parameters."""
    return [
        (is_name, {"value": "a"}), (is_integer, {"value": 1}), (is_number, {"value": (1, 2)}),
        (number, {"numerator": 6, "denominator": -4}), (minus, {"first": 1, "second": (1, 2)}),
        (divided, {"first": 1, "second": (1, 2)}), (is_less, {"first": 1, "second": 2}), (number_text, {"value": (1, 2)}),
        (parse_number, {"text": "1/2"}), (Sheet, {"fields": ["a", "b"]}), (Sheet.read, {"text": "a b"}),
        (Space, {"sheet": SHEET, "equations": [EQUATION]}), (is_setting, {"sheet": SHEET, "value": SETTINGS[0]}),
        (is_stronger, {"sheet": SHEET, "first": SETTINGS[0], "second": SETTINGS[1]}),
        (strongest_first, {"sheet": SHEET, "settings": list(SETTINGS)}),
        (held, {"space": SPACE, "settings": list(SETTINGS)}), (base, {"space": SPACE, "settings": list(SETTINGS)}),
        (holding_steps, {"space": SPACE, "settings": list(SETTINGS)}),
        (State, {"space": SPACE, "settings": list(SETTINGS)}), (Replica, {"name": "ann", "sheet": SHEET}),
        (RecordingReplica, {"name": "ann", "sheet": SHEET}), (Replica.is_level, {"value": 2}),
        (brings_nothing, {"state": new_state(), "other": new_state()}),
        (forecast, {"one": new_state(), "other": State(SPACE)}), (Group, {"sheet": SHEET, "names": ["ann", "bo"]}),
        (can_be_met, {"state": new_state(), "wishes": list(WISHES)}), (conflict, {"state": new_state(), "wishes": list(WISHES)}),
        (is_conflict, {"state": new_state(), "wishes": list(WISHES), "value": ({"a": 1, "b": 1, "s": -1}, {})}),
        (setting_text, {"sheet": SHEET, "setting": SETTINGS[0]}), (parse_setting, {"sheet": SHEET, "text": "0 1 ann a 3"}),
        (state_text, {"state": new_state()}), (parse_state, {"text": "sheet a\nclock 0\n"}),
    ]


def method_calls():
    """Factories of objects, names of methods, and arguments by name, in the sequence of their parameters."""
    sheet, space, state = lambda: Sheet(["a", "b", "s"]), lambda: Space(SHEET, [EQUATION]), new_state
    return [
        (sheet, "fields", {}), (sheet, "has_field", {"value": "a"}), (sheet, "place", {"field": "b"}),
        (sheet, "is_equation", {"value": EQUATION}), (sheet, "equation_text", {"equation": EQUATION}),
        (sheet, "parse_equation", {"text": "1 a"}), (space, "sheet", {}), (space, "rows", {}),
        (space, "follows", {"equation": EQUATION}), (space, "combination", {"equation": (2, 2, -2)}),
        (space, "zero_fields", {}), (space, "are_free", {"fields": ["a", "b"]}), (space, "determined", {"fields": ["a", "b"]}),
        (space, "expression", {"field": "s", "fields": ["a", "b"]}), (space, "identity", {"field": "s", "fields": ["a", "b"]}),
        (space, "components", {}), (state, "space", {}), (state, "held", {}), (state, "base", {}),
        (state, "setting_of", {"field": "s"}), (state, "value_of", {"field": "a"}), (state, "all_values", {}),
        (state, "expression", {"field": "a"}), (state, "holds", {"setting": SETTINGS[0]}),
        (state, "reason", {"setting": SETTINGS[0]}), (state, "least_level", {"field": "s"}),
        (state, "with_setting", {"setting": (2, 9, "ann", "a", 1)}), (state, "with_equation", {"equation": (1, 0, 0)}),
        (state, "changed_fields", {"other": State(SPACE)}), (new_replica, "state", {}), (new_replica, "value_of", {"field": "b"}),
        (new_replica, "all_values", {}), (new_replica, "preview", {"field": "b", "value": 9}), (new_replica, "clone", {}),
        (new_recording, "records", {}), (new_recording, "clone", {}), (new_group, "sheet", {}), (new_group, "names", {}),
        (new_group, "state", {"name": "ann"}), (new_group, "known_settings", {"name": "ann"}),
        (new_group, "known_equations", {"name": "ann"}), (new_group, "full_state", {"name": "bo"}), (new_group, "clone", {}),
        (new_console, "log", {}), (new_console, "group", {}),
    ]


def changing_calls():
    """The same for methods that change their objects."""
    return [
        (new_replica, "use_level", {"level": 2}), (new_replica, "assign", {"field": "b", "value": 9}),
        (new_replica, "add_equation", {"equation": (1, 0, 0)}), (new_replica, "receive", {"state": State(SPACE, clock=9)}),
        (new_replica, "take_back", {}), (new_recording, "assign", {"field": "b", "value": (1, 2)}),
        (new_group, "assign", {"name": "bo", "field": "a", "value": 9}),
        (new_group, "add_equation", {"name": "bo", "equation": (1, 0, 0)}), (new_group, "send", {"name": "bo"}),
        (new_console, "execute", {"command": "send ann"}), (new_console, "run", {"commands": ["send ann", "values bo"]}),
    ]


def seen(value):
    """A value that can be compared: a generator as the list of what it yields, a console as what it tells."""
    if inspect.isgenerator(value):
        return list(value)
    return (value.log(), facts(value.group())) if isinstance(value, Console) else value


def facts(group):
    return [group, group.message_count, [(group.known_settings(name), group.known_equations(name)) for name in group.names()]]


def described(thing):
    """All that an object tells of itself."""
    if isinstance(thing, Replica):
        records = (thing.records(), thing.total) if isinstance(thing, RecordingReplica) else ()
        return [thing.clone(), thing.name, thing.default_level, thing.state(), records]
    return [facts(thing)] if isinstance(thing, Group) else [seen(thing)]


class PassingTest(unittest.TestCase):
    def test_by_position_and_by_name(self):
        for function, named in function_calls():
            wanted = seen(function(*named.values()))
            self.assertEqual(seen(function(**named)), wanted, function)
            self.assertEqual(seen(function(**dict(reversed(named.items())))), wanted, function)

    def test_methods_by_position_and_by_name(self):
        for make, name, named in method_calls() + changing_calls():
            one, other = make(), make()
            self.assertEqual(seen(getattr(one, name)(*named.values())), seen(getattr(other, name)(**named)), name)
            self.assertEqual(described(one), described(other), name)

    def test_keyword_only_parameters(self):
        state, replica, group = new_state(), new_replica(), new_group()
        calls = [
            lambda: State(SPACE, [], 3), lambda: RecordingReplica("ann", SHEET, 3), lambda: replica.assign("a", 1, 2),
            lambda: replica.preview("a", 1, 2), lambda: replica.assign_named(2), lambda: group.assign("ann", "a", 1, 2),
            lambda: group.deliver(0, "bo"), lambda: can_be_met(state, [], 2), lambda: conflict(state, [], 2),
            lambda: is_conflict(state, [], ({}, {}), 2), lambda: fulfil(replica, [], 2),
            lambda: fulfil_in_group(group, "ann", [], 2),
        ]
        for call in calls:
            self.assertRaises(TypeError, call)
        self.assertEqual(described(replica), described(new_replica()))
        self.assertEqual(described(group), described(new_group()))

    def test_tuples_where_lists_are_meant(self):
        for function, named in function_calls():
            self.assertEqual(seen(function(**with_tuples(named))), seen(function(**named)), function)
        for make, name, named in method_calls() + changing_calls():
            self.assertEqual(seen(getattr(make(), name)(**with_tuples(named))), seen(getattr(make(), name)(**named)), name)
        self.assertEqual(fulfil(new_replica(), (("b", 2),)), fulfil(new_replica(), [("b", 2)]))
        self.assertEqual(fulfil_in_group(new_group(), "bo", (("b", 2),)), fulfil_in_group(new_group(), "bo", [("b", 2)]))

    def test_lists_where_tuples_are_meant(self):
        state, replica, group = new_state(), new_replica(), new_group()
        rows = [
            (errors.InvalidNumber, lambda: plus([1, 2])), (errors.InvalidNumber, lambda: replica.assign("a", [1, 2])),
            (errors.InvalidEquation, lambda: SPACE.follows([1, 1, -1])), (errors.InvalidEquations, lambda: Space(SHEET, [[1, 1, -1]])),
            (errors.InvalidSetting, lambda: state.holds(list(SETTINGS[0]))),
            (errors.InvalidSettings, lambda: State(SPACE, [list(SETTINGS[0])])),
            (errors.InvalidEquation, lambda: replica.add_equation([1, 0, 0])),
            (errors.InvalidEquation, lambda: group.add_equation("ann", [1, 0, 0])),
            (errors.InvalidPairs, lambda: replica.assign_all(["a", 1])), (errors.InvalidWishes, lambda: conflict(state, [["a", 1]])),
            (errors.InvalidSetting, lambda: setting_text(SHEET, list(SETTINGS[0]))),
        ]
        for wanted, call in rows:
            error_of(wanted, call)
        self.assertIs(is_conflict(state, WISHES, [{"a": 1, "b": 1, "s": -1}, {}]), False)

    def test_true_and_false_are_no_integers(self):
        state, replica, group = new_state(), new_replica(), new_group()
        rows = [
            (errors.InvalidNumber, lambda: replica.assign("a", True)), (errors.InvalidNumber, lambda: replica.assign("a", (True, 2))),
            (errors.InvalidLevel, lambda: replica.assign("a", 1, level=True)), (errors.InvalidLevel, lambda: replica.use_level(False)),
            (errors.InvalidClock, lambda: State(SPACE, clock=False)), (errors.InvalidCount, lambda: RecordingReplica("a", SHEET, most=True)),
            (errors.InvalidEquation, lambda: replica.add_equation((1, True, 0))),
            (errors.InvalidEquation, lambda: state.with_equation((False, 1, 0))),
            (errors.InvalidSetting, lambda: state.holds((False, 1, "ann", "a", 3))),
            (errors.InvalidSetting, lambda: state.reason((0, True, "ann", "a", 3))),
            (errors.InvalidSetting, lambda: state.with_setting((0, 1, "ann", "a", False))),
            (errors.InvalidSettings, lambda: State(SPACE, [(0, 1, "ann", "a", (1, True))])),
            (errors.InvalidPairs, lambda: replica.assign_all(("a", True))), (errors.InvalidNumber, lambda: replica.assign_named(a=True)),
            (errors.UnknownMessage, lambda: group.deliver(False, to="ann")), (errors.InvalidLevel, lambda: group.assign("ann", "a", 1, level=True)),
            (errors.InvalidWishes, lambda: can_be_met(state, [("a", True)])), (errors.InvalidLevel, lambda: can_be_met(state, [], level=True)),
            (errors.InvalidLevel, lambda: fulfil(replica, [], level=False)), (errors.InvalidNames, lambda: Group(SHEET, [True])),
        ]
        for wanted, call in rows:
            error_of(wanted, call)
        self.assertEqual([described(replica), described(group)], [described(new_replica()), described(new_group())])


def with_tuples(named):
    return {name: tuple(value) if isinstance(value, list) else value for name, value in named.items()}


class OwnershipTest(unittest.TestCase):
    def test_arguments_stay_as_they_are(self):
        for function, named in function_calls():
            before = copy.deepcopy(named)
            seen(function(**named))
            self.assertEqual(named, before, function)
        for make, name, named in method_calls() + changing_calls():
            before = copy.deepcopy(named)
            getattr(make(), name)(**named)
            self.assertEqual(named, before, name)

    def test_later_changes_of_arguments(self):
        for function, named in function_calls():
            wanted = seen(function(**copy.deepcopy(named)))
            found = seen(function(**named))
            spoil([value for value in named.values() if isinstance(value, list)])
            self.assertEqual(found, wanted, function)
        for make, name, named in changing_calls():
            one, other = make(), make()
            getattr(one, name)(**named)
            getattr(other, name)(**copy.deepcopy(named))
            for value in named.values():
                if isinstance(value, list):
                    spoil(value)
            self.assertEqual(described(one), described(other), name)

    def test_changed_results_have_no_effect(self):
        for function, named in function_calls():
            before = copy.deepcopy(seen(function(**named)))
            spoil(seen(function(**named)))
            self.assertEqual(seen(function(**named)), before, function)
        for make, name, named in method_calls():
            thing = make()
            told = described(thing)
            before = copy.deepcopy(getattr(thing, name)(**named))
            spoil(getattr(thing, name)(**named))
            self.assertEqual([getattr(thing, name)(**named), described(thing)], [before, told], name)

    def test_changed_results_of_changing_calls(self):
        calls = [
            (new_replica, lambda one: one.receive(State(SPACE, [(2, 9, "bo", "b", 9)]))),
            (new_replica, lambda one: one.assign_all(("a", 1), ("b", 2), level=1)), (new_replica, lambda one: one.assign_named(s=1)),
            (new_recording, lambda one: one.receive(State(SPACE, [(2, 9, "bo", "b", 9)]))),
            (new_replica, lambda one: fulfil(one, [("b", 2)])), (new_group, lambda one: one.deliver(0, to="bo")),
            (new_group, lambda one: fulfil_in_group(one, "bo", [("b", 2)])),
            (new_console, lambda one: one.run(["send ann", "values bo"])),
        ]
        for make, call in calls:
            one, other = make(), make()
            spoil(call(one))
            call(other)
            self.assertEqual(described(one), described(other))

    def test_repeated_calls(self):
        for function, named in function_calls():
            self.assertEqual(seen(function(**named)), seen(function(**named)), function)
        for make, name, named in method_calls():
            thing = make()
            told = described(thing)
            first = getattr(thing, name)(**named)
            self.assertEqual([getattr(thing, name)(**named), getattr(thing, name)(**named)], [first, first], name)
            self.assertEqual(described(thing), told, name)

    def test_objects_share_nothing(self):
        for make, name, named in changing_calls():
            one, other = make(), make()
            before = described(other)
            getattr(one, name)(**named)
            self.assertEqual(described(other), before, name)


class ErrorTest(unittest.TestCase):
    def error_rows(self, state, replica, group):
        """Calls to which several errors apply, and the one that is listed first."""
        strange, refused = STRANGE, {"level": 0}
        return [
            (errors.InvalidSettings, lambda: State(SPACE, [None], clock=-1)), (errors.InvalidName, lambda: RecordingReplica("", SHEET, most=0)),
            (errors.UnknownField, lambda: replica.assign("x", None, level=9)),
            (errors.InvalidNumber, lambda: replica.assign("a", None, level=9)),
            (errors.InvalidLevel, lambda: replica.assign("a", 1, level=9)), (errors.Refused, lambda: replica.assign("a", 1, **refused)),
            (errors.UnknownField, lambda: replica.preview("x", None, level=9)),
            (errors.InvalidNumber, lambda: replica.preview("a", None, level=9)),
            (errors.InvalidLevel, lambda: replica.preview("a", 1, level=9)), (errors.Refused, lambda: replica.preview("a", 1)),
            (errors.InvalidPairs, lambda: replica.assign_all(("a", 1), None, level=9)),
            (errors.InvalidLevel, lambda: replica.assign_all(("a", 1), level=9)), (errors.Refused, lambda: replica.assign_all(("b", 1), ("a", 1))),
            (errors.UnknownField, lambda: replica.assign_named(a=None, x=1, level=9)),
            (errors.InvalidNumber, lambda: replica.assign_named(a=None, level=9)),
            (errors.InvalidLevel, lambda: replica.assign_named(a=1, level=9)), (errors.Refused, lambda: replica.assign_named(b=1, a=1)),
            (errors.InvalidEquation, lambda: replica.add_equation(None)), (errors.OtherSheet, lambda: replica.receive(strange)),
            (errors.InvalidLevel, lambda: replica.use_level(None)), (errors.UnknownReplica, lambda: group.assign("x", "x", None, level=9)),
            (errors.UnknownField, lambda: group.assign("ann", "x", None, level=9)),
            (errors.InvalidNumber, lambda: group.assign("ann", "a", None, level=9)),
            (errors.InvalidLevel, lambda: group.assign("ann", "a", 1, level=None)), (errors.Refused, lambda: group.assign("ann", "a", 1)),
            (errors.UnknownReplica, lambda: group.add_equation("x", None)), (errors.InvalidEquation, lambda: group.add_equation("ann", None)),
            (errors.UnknownReplica, lambda: group.send("x")), (errors.UnknownMessage, lambda: group.deliver(9, to="x")),
            (errors.UnknownReplica, lambda: group.deliver(0, to="x")), (errors.InvalidWishes, lambda: fulfil(replica, [None], level=9)),
            (errors.InvalidLevel, lambda: fulfil(replica, [("a", 1)], level=9)), (errors.Impossible, lambda: fulfil(replica, [("b", 1), ("a", 1)])),
            (errors.UnknownReplica, lambda: fulfil_in_group(group, "x", [None], level=9)),
            (errors.InvalidWishes, lambda: fulfil_in_group(group, "ann", [None], level=9)),
            (errors.InvalidLevel, lambda: fulfil_in_group(group, "ann", [("a", 1)], level=9)),
            (errors.Impossible, lambda: fulfil_in_group(group, "ann", [("b", 1), ("a", 1)])),
            (errors.InvalidSetting, lambda: is_stronger(SHEET, None, None)), (errors.UnknownField, lambda: SPACE.expression("x", None)),
            (errors.InvalidFields, lambda: SPACE.expression("a", None)), (errors.NotFree, lambda: SPACE.expression("a", ["b", "b"])),
            (errors.OtherSheet, lambda: joined(state, strange)), (errors.OtherSheet, lambda: forecast(state, strange)),
            (errors.OtherSheet, lambda: brings_nothing(state, strange)), (errors.OtherSheet, lambda: list(join_steps(state, strange))),
            (errors.OtherSheet, lambda: state.changed_fields(strange)), (errors.InvalidText, lambda: parse_state("")),
            (errors.InvalidNumber, lambda: plus(1, None)), (errors.InvalidNumber, lambda: times(None)),
        ]

    def test_the_first_error_and_nothing_changes(self):
        state, replica, group = new_state(), new_recording(), new_group()
        before = copy.deepcopy([described(replica), described(group), state])
        for wanted, call in self.error_rows(state, replica, group):
            error_of(wanted, call)
            self.assertEqual([described(replica), described(group), state], before)
        replica.take_back()

    def test_lists_and_dicts_in_errors_belong_to_the_caller(self):
        state, replica, group = new_state(), new_recording(), new_group()
        before = copy.deepcopy([described(replica), described(group), state])
        for wanted, call in self.error_rows(state, replica, group):
            first = copy.deepcopy(vars(error_of(wanted, call)))
            for value in vars(error_of(wanted, call)).values():
                spoil(value)
            self.assertEqual(vars(error_of(wanted, call)), first)
        self.assertEqual([described(replica), described(group), state], before)

    def test_values_in_errors_stay_as_they_were_passed(self):
        replica, group = new_replica(), new_group()
        for call in [lambda value: replica.assign(value, 1), lambda value: replica.assign("a", value),
                     lambda value: replica.use_level(value), lambda value: replica.add_equation(value),
                     lambda value: group.state(value), lambda value: group.deliver(value, to="ann"),
                     lambda value: State(SPACE, clock=value), lambda value: new_state().holds(value),
                     lambda value: Console(group).execute(value), lambda value: setting_text(SHEET, value)]:
            value = [1, {"a": [2]}]
            try:
                call(value)
            except (errors.LastheldError, errors.MissingError) as error:
                spoil(value)
                self.assertEqual(list(vars(error).values()), [[1, {"a": [2]}]])
            else:
                self.fail("no error")

    def test_the_log_alone_changes(self):
        console = new_console()
        before, log = facts(console.group()), console.log()
        error_of(errors.RunFailed, console.run, ["send ann", "assign ann b 4 0", "send x"])
        self.assertEqual([facts(console.group()), console.log()], [before, [*log, ("run", 3, 2)]])
        error_of(errors.UnknownReplica, console.execute, "send x")
        error_of(errors.InvalidCommand, console.execute, "send")
        error_of(errors.InvalidCommand, console.run, "send ann")
        self.assertEqual([facts(console.group()), console.log()], [before, [*log, ("run", 3, 2)]])


class HelperTest(unittest.TestCase):
    def test_all_lists_and_dicts_are_found(self):
        value = ([1, {"a": [2]}], {"b": {}}, 3)
        self.assertEqual(len(public_parts(value)), 5)
        spoil(value)
        self.assertEqual(value, ([1, {"a": [2, "spoilt"], "spoilt": "spoilt"}, "spoilt"],
                                 {"b": {"spoilt": "spoilt"}, "spoilt": "spoilt"}, 3))

    def test_pairs(self):
        self.assertIs(checks.is_pair(SHEET, ("a", 1)), True)
        self.assertIs(checks.is_pair(SHEET, ["a", 1]), False)


if __name__ == "__main__":
    unittest.main()
