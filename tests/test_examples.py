"""The examples of the document's interface, word for word."""

import ast
import unittest

ERRORS = """
>>> from lastheld.errors import Refused
>>> error = Refused("a", 0, {"s": 1})
>>> [error.field, error.level, error.cause, isinstance(error, RuntimeError)]
['a', 0, {'s': 1}, True]
"""

RATIONALS = """
>>> from lastheld.rationals import divided, is_number, number, plus, times
>>> [number(6, -4), plus((1, 2), (1, 3), 2), times((1, 2), 4), divided(7, (2, 3)), is_number((2, 4)), is_number((3, 1))]
[(-3, 2), (17, 6), 2, (21, 2), False, False]
"""

NUMBER_TEXTS = """
>>> from lastheld.rationals import number_text, parse_number
>>> [number_text((-7, 3)), parse_number("12"), parse_number("1/2")]
['-7/3', 12, (1, 2)]
"""

WRONG_NUMBER_TEXT = """
>>> from lastheld.rationals import parse_number
>>> parse_number("2/4")
raises InvalidText(line=1)
"""

SHEETS = """
>>> from lastheld.sheets import Sheet
>>> sheet = Sheet(["a", "b", "s"])
>>> [sheet.fields(), sheet.width, sheet.place("s"), sheet.equation(s=-1, a=1, b=1), str(sheet), sheet == Sheet.read("a b s")]
[['a', 'b', 's'], 3, 2, (1, 1, -1), 'a b s', True]
"""

EQUATION_TEXTS = """
>>> from lastheld.sheets import Sheet
>>> sheet = Sheet(["a", "b", "s"])
>>> [sheet.equation_text((1, 0, -2)), sheet.equation_text((0, 0, 0)), sheet.parse_equation("-3 b"), sheet.is_equation([1, 1, 1])]
['1 a -2 s', '0', (0, -3, 0), False]
"""

WRONG_FIELDS = """
>>> from lastheld.sheets import Sheet
>>> Sheet(["a", "b", "a"])
raises InvalidFields(index=2)
"""

SPACES = """
>>> from lastheld.sheets import Sheet
>>> from lastheld.spaces import Space
>>> space = Space(Sheet(["a", "b", "s"]), [(1, 1, -1), (0, 3, -1)])
>>> [space, space.freedom, space.follows((3, 3, -3)), space.combination((3, 3, -3)), space.combination((1, 0, 0))]
[Space(['a', 'b', 's'], [(3, 0, -2), (0, 3, -1)]), 1, True, [1, 1], None]
"""

EXPRESSIONS = """
>>> from lastheld.sheets import Sheet
>>> from lastheld.spaces import Space
>>> space = Space(Sheet(["a", "b", "s"]), [(2, 1, -1)])
>>> [space.are_free(["a", "s"]), space.determined(["b", "s"]), space.expression("a", ["b", "s"]), space.identity("a", ["b", "s"])]
[True, ['a', 'b', 's'], {'b': (-1, 2), 's': (1, 2)}, [(1, 2)]]
"""

ZERO_FIELDS = """
>>> from lastheld.sheets import Sheet
>>> from lastheld.spaces import Space
>>> space = Space(Sheet(["a", "b"]), [(1, 1), (1, -1)])
>>> [space.rows(), space.zero_fields(), space.determined([]), space.expression("a", [])]
[[(1, 0), (0, 1)], ['a', 'b'], ['a', 'b'], {}]
"""

NOT_DETERMINED = """
>>> from lastheld.sheets import Sheet
>>> from lastheld.spaces import Space
>>> Space(Sheet(["a", "b", "s"]), [(1, 1, -1)]).expression("s", ["a"])
raises NotDetermined(field='s')
"""

COMPONENTS = """
>>> from lastheld.sheets import Sheet
>>> from lastheld.spaces import Space
>>> Space(Sheet(["a", "x", "b", "y", "z"]), [(1, 0, -2, 0, 0), (0, 3, 0, 1, 0)]).components()
[('a', 'b'), ('x', 'y'), ('z',)]
"""

SETTINGS = """
>>> from lastheld.settings import is_setting, is_stronger
>>> from lastheld.sheets import Sheet
>>> sheet = Sheet(["a", "b"])
>>> [is_stronger(sheet, (0, 5, "bo", "a", 1), (0, 5, "ann", "b", 9)), is_stronger(sheet, (0, 9, "bo", "a", 1), (1, 2, "ann", "b", 9)), is_setting(sheet, (0, 0, "ann", "a", 1))]
[True, False, False]
"""

HOLDING = """
>>> from lastheld.holding import base, held, holding_steps
>>> from lastheld.sheets import Sheet
>>> from lastheld.spaces import Space
>>> space = Space(Sheet(["a", "b", "s"]), [(1, 1, -1)])
>>> settings = [(0, 1, "ann", "a", 3), (0, 2, "bo", "s", 10), (0, 3, "ann", "b", 4)]
>>> [held(space, settings[:2]), base(space, settings[:1]), [is_held for setting, is_held in holding_steps(space, settings)]]
[[(0, 2, 'bo', 's', 10), (0, 1, 'ann', 'a', 3)], ['a', 'b'], [True, True, False]]
"""

STATES = """
>>> from lastheld.sheets import Sheet
>>> from lastheld.spaces import Space
>>> from lastheld.states import State
>>> space = Space(Sheet(["a", "b", "s"]), [(1, 1, -1)])
>>> state = State(space, [(0, 1, "ann", "a", 3), (0, 2, "bo", "s", 10), (0, 3, "ann", "b", 4)])
>>> [state, len(state), state.clock, state.all_values(), state.expression("a"), state.setting_of("a"), state.held()[1]]
[State(['b', 's'], 3), 2, 3, {'a': 6, 'b': 4, 's': 10}, {'b': -1, 's': 1}, None, (0, 2, 'bo', 's', 10)]
"""

HOLDING_IN_STATES = """
>>> from lastheld.sheets import Sheet
>>> from lastheld.spaces import Space
>>> from lastheld.states import State
>>> space = Space(Sheet(["a", "b", "s"]), [(1, 1, -1)])
>>> state = State(space, [(2, 1, "ann", "a", 3), (1, 2, "bo", "s", 10)])
>>> [state.holds((0, 9, "bo", "b", 1)), state.reason((0, 9, "bo", "b", 1)), state.least_level("b"), state.least_level("a"), state.changed_fields(state.with_equation((0, 1, 0)))]
[False, {'a': -1, 's': 1}, 1, 2, ['b', 's']]
"""

REPLICAS = """
>>> from lastheld.replicas import Replica
>>> from lastheld.sheets import Sheet
>>> replica = Replica("ann", Sheet(["a", "b", "s"]))
>>> leaving = [replica.add_equation((1, 1, -1)), replica.assign("a", 3), replica.assign("b", 4), replica.assign("s", 10)]
>>> [leaving, replica, replica.state().base(), replica.preview("a", 1), replica.clock]
[['s', 'a', 'b', 'a'], Replica('ann', {'a': 6, 'b': 4, 's': 10}), ['s', 'b'], ('b', ['a', 'b']), 3]
"""

SEVERAL_ASSIGNMENTS = """
>>> from lastheld.replicas import Replica
>>> from lastheld.sheets import Sheet
>>> replica = Replica("ann", Sheet(["a", "b", "s"]))
>>> first = replica.add_equation((1, 1, -1))
>>> [replica.assign_all(("a", 1), ("b", 2)), replica.assign_named(s=(1, 2), a=5), replica.all_values()]
[['a', 'b'], ['a', 'b'], {'a': 5, 'b': (-9, 2), 's': (1, 2)}]
"""

REFUSED_ASSIGNMENT = """
>>> from lastheld.replicas import Replica
>>> from lastheld.sheets import Sheet
>>> replica = Replica("ann", Sheet(["a", "b", "s"]))
>>> leaving = [replica.add_equation((1, 1, -1)), replica.assign_all(("a", 1), ("s", 3), level=2)]
>>> replica.assign("b", 5, level=1)
raises Refused(field='b', level=1, cause={'s': 1, 'a': -1})
"""

TAKING_BACK = """
>>> from lastheld.replicas import Replica
>>> from lastheld.sheets import Sheet
>>> replica = Replica("ann", Sheet(["a", "b", "s"]))
>>> leaving = [replica.add_equation((1, 1, -1)), replica.assign("a", 3), replica.assign("b", 4), replica.assign("s", 10)]
>>> replica.take_back()
>>> [replica.all_values(), replica.state().base(), replica.clock]
[{'a': 3, 'b': 4, 's': 7}, ['s', 'b'], 4]
"""

NOTHING_TO_TAKE_BACK = """
>>> from lastheld.replicas import RecordingReplica
>>> from lastheld.sheets import Sheet
>>> replica = RecordingReplica("ann", Sheet(["a", "b"]), most=2)
>>> leaving = [replica.assign("a", 3), replica.add_equation((1, 1)), replica.add_equation((2, 2))]
>>> replica.take_back()
raises NothingToTakeBack
"""

RECORDS = """
>>> from lastheld.replicas import RecordingReplica
>>> from lastheld.sheets import Sheet
>>> replica = RecordingReplica("ann", Sheet(["a", "b"]), most=2)
>>> leaving = [replica.assign("a", 3), replica.add_equation((1, 1)), replica.add_equation((2, 2)), replica.assign("b", 1, level=1)]
>>> [leaving, replica.records(), replica.total]
[['a', 'b', None, 'a'], [('equation', (1, 1), 'b'), ('assign', 'b', 1, 1, 'a')], 3]
"""

JOINING = """
>>> from lastheld.joining import brings_nothing, forecast, joined
>>> from lastheld.sheets import Sheet
>>> from lastheld.spaces import Space
>>> from lastheld.states import State
>>> space = Space(Sheet(["a", "b", "s"]), [(1, 1, -1)])
>>> one = State(space, [(0, 1, "ann", "a", 3), (0, 2, "ann", "b", 4)])
>>> other = State(space, [(0, 1, "ann", "a", 3), (0, 2, "bo", "s", 10)])
>>> [joined(one, other), brings_nothing(one, other), forecast(one, other)]
[State(['s', 'b'], 2), False, ([(0, 2, 'bo', 's', 10), (0, 2, 'ann', 'b', 4)], ['b'], ['s'])]
"""

GROUPS = """
>>> from lastheld.groups import Group
>>> from lastheld.sheets import Sheet
>>> group = Group(Sheet(["a", "b", "s"]), ["ann", "bo"])
>>> leaving = [group.add_equation("ann", (1, 1, -1)), group.assign("ann", "a", 3)]
>>> [group.deliver(group.send("ann"), to="bo"), group.assign("bo", "s", 10), group.assign("ann", "b", 4), group.deliver(group.send("bo"), to="ann")]
[['a', 's'], 'b', 'b', ['a', 's']]
"""

KNOWN_SETTINGS = """
>>> from lastheld.groups import Group
>>> from lastheld.sheets import Sheet
>>> group = Group(Sheet(["a", "b", "s"]), ["ann", "bo"])
>>> leaving = [group.add_equation("ann", (1, 1, -1)), group.assign("ann", "a", 3)]
>>> changed = [group.deliver(group.send("ann"), to="bo"), group.assign("bo", "s", 10), group.assign("ann", "b", 4), group.deliver(group.send("bo"), to="ann")]
>>> [group.state("ann"), group.known_settings("ann"), group.state("ann") == group.full_state("ann")]
[State(['s', 'b'], 2), [(0, 2, 'bo', 's', 10), (0, 2, 'ann', 'b', 4), (0, 1, 'ann', 'a', 3)], True]
"""

WISHES = """
>>> from lastheld.replicas import Replica
>>> from lastheld.sheets import Sheet
>>> from lastheld.wishes import can_be_met, fulfil, is_conflict
>>> replica = Replica("ann", Sheet(["a", "b", "s"]))
>>> first = replica.add_equation((1, 1, -1))
>>> wishes = [("a", 1), ("b", 2), ("s", 4)]
>>> [can_be_met(replica.state(), wishes), is_conflict(replica.state(), wishes, ({"a": 1, "b": 1, "s": -1}, {})), fulfil(replica, [("a", 1), ("s", 5)]), replica]
[False, True, ['b'], Replica('ann', {'a': 1, 'b': 4, 's': 5})]
"""

WISHES_WITH_LEVELS = """
>>> from lastheld.replicas import Replica
>>> from lastheld.sheets import Sheet
>>> from lastheld.wishes import can_be_met, is_conflict
>>> replica = Replica("ann", Sheet(["a", "b", "s"]))
>>> leaving = [replica.add_equation((1, 1, -1)), replica.assign("s", 10, level=2)]
>>> wishes = [("a", 1), ("b", 2)]
>>> [can_be_met(replica.state(), wishes), can_be_met(replica.state(), wishes, level=2), is_conflict(replica.state(), wishes, ({"a": 2, "b": 2}, {"s": 2}))]
[False, True, True]
"""

TEXTS = """
>>> from lastheld.sheets import Sheet
>>> from lastheld.spaces import Space
>>> from lastheld.states import State
>>> from lastheld.texts import parse_state, state_text
>>> space = Space(Sheet(["a", "b", "s"]), [(1, 1, -1)])
>>> state = State(space, [(0, 1, "ann", "a", 3), (0, 2, "bo", "s", (1, 2)), (0, 3, "ann", "b", 4)])
>>> [state_text(state), parse_state(state_text(state)) == state]
['sheet a b s\\nclock 3\\nequation 1 a 1 b -1 s\\nsetting 0 3 ann b 4\\nsetting 0 2 bo s 1/2\\n', True]
"""

WRONG_STATE_TEXT = """
>>> from lastheld.texts import parse_state
>>> parse_state("sheet a b\\nclock 2\\nequation 2 a 2 b\\n")
raises InvalidText(line=3)
"""

CONSOLE = """
>>> from lastheld.console import Console
>>> from lastheld.groups import Group
>>> from lastheld.sheets import Sheet
>>> console = Console(Group(Sheet(["a", "b", "s"]), ["ann", "bo"]))
>>> [console.run(["equation ann 1 a 1 b -1 s", "assign ann a 3 0", "assign ann b 1/2 1", "values ann"]), console.execute("held ann"), console.log()]
[['s', 'a', 'b', 'a=3 b=1/2 s=7/2'], '1 2 ann b 1/2; 0 1 ann a 3', [('run', 4, 4), ('alone', 'held ann')]]
"""

CONSOLE_MESSAGES = """
>>> from lastheld.console import Console
>>> from lastheld.groups import Group
>>> from lastheld.sheets import Sheet
>>> console = Console(Group(Sheet(["a", "b"]), ["ann", "bo"]))
>>> results = [console.execute("send ann"), console.execute("assign bo a 2 0"), console.execute("forecast ann bo")]
>>> [results, console.execute("deliver 0 bo"), console.execute("rows bo")]
[['0', 'a', 'b | a b'], '-', '-']
"""


def shown_error(error):
    """An error as the examples write it: its class, and its fields in their sequence."""
    fields = [f"{name}={value!r}" for name, value in vars(error).items()]
    return f"raises {error.__class__.__name__}" + (f"({', '.join(fields)})" if fields else "")


def executed(line, names):
    """What a line of an example shows: None, the repr of its result, or its error."""
    is_expression = isinstance(ast.parse(line).body[0], ast.Expr)
    try:
        if not is_expression:
            exec(line, names)
            return None
        result = eval(line, names)
    except Exception as error:
        return shown_error(error)
    return None if result is None else repr(result)


def transcript(example):
    """An example, with the results that its lines have now."""
    names = {}
    rows = []
    for row in example.strip().splitlines():
        if row.startswith(">>> "):
            rows.append(row)
            shown = executed(row.removeprefix(">>> "), names)
            if shown is not None:
                rows.append(shown)
    return "\n".join(rows)


class ExampleTest(unittest.TestCase):
    maxDiff = None

    def assert_example(self, example):
        self.assertEqual(transcript(example), example.strip())

    def test_errors(self):
        self.assert_example(ERRORS)

    def test_rationals(self):
        self.assert_example(RATIONALS)

    def test_number_texts(self):
        self.assert_example(NUMBER_TEXTS)

    def test_wrong_number_text(self):
        self.assert_example(WRONG_NUMBER_TEXT)

    def test_sheets(self):
        self.assert_example(SHEETS)

    def test_equation_texts(self):
        self.assert_example(EQUATION_TEXTS)

    def test_wrong_fields(self):
        self.assert_example(WRONG_FIELDS)

    def test_spaces(self):
        self.assert_example(SPACES)

    def test_expressions(self):
        self.assert_example(EXPRESSIONS)

    def test_zero_fields(self):
        self.assert_example(ZERO_FIELDS)

    def test_not_determined(self):
        self.assert_example(NOT_DETERMINED)

    def test_components(self):
        self.assert_example(COMPONENTS)

    def test_settings(self):
        self.assert_example(SETTINGS)

    def test_holding(self):
        self.assert_example(HOLDING)

    def test_states(self):
        self.assert_example(STATES)

    def test_holding_in_states(self):
        self.assert_example(HOLDING_IN_STATES)

    def test_replicas(self):
        self.assert_example(REPLICAS)

    def test_several_assignments(self):
        self.assert_example(SEVERAL_ASSIGNMENTS)

    def test_refused_assignment(self):
        self.assert_example(REFUSED_ASSIGNMENT)

    def test_taking_back(self):
        self.assert_example(TAKING_BACK)

    def test_nothing_to_take_back(self):
        self.assert_example(NOTHING_TO_TAKE_BACK)

    def test_records(self):
        self.assert_example(RECORDS)

    def test_joining(self):
        self.assert_example(JOINING)

    def test_groups(self):
        self.assert_example(GROUPS)

    def test_known_settings(self):
        self.assert_example(KNOWN_SETTINGS)

    def test_wishes(self):
        self.assert_example(WISHES)

    def test_wishes_with_levels(self):
        self.assert_example(WISHES_WITH_LEVELS)

    def test_texts(self):
        self.assert_example(TEXTS)

    def test_wrong_state_text(self):
        self.assert_example(WRONG_STATE_TEXT)

    def test_console(self):
        self.assert_example(CONSOLE)

    def test_console_messages(self):
        self.assert_example(CONSOLE_MESSAGES)


if __name__ == "__main__":
    unittest.main()
