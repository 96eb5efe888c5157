"""States: point [12] of the document, the guarantee ALWAYS TRUE, and the class of the interface."""

import random
import unittest

import linear
from lastheld.errors import InvalidClock, InvalidSettings, UnknownField
from lastheld.replicas import Replica
from lastheld.sheets import Sheet
from lastheld.spaces import Space
from lastheld.states import State
from models import Small, random_settings, small_cases, value_total
from values import EqualToAll, error_of, no_fields, no_lists, no_settings, other_kinds, spoil

SHEET = Sheet(["a", "b", "s"])
ABS = Space(SHEET, [(1, 1, -1)])
FIRST = (0, 1, "ann", "a", 3)
SECOND = (0, 2, "bo", "s", 10)
THIRD = (0, 3, "ann", "b", 4)
LONG = 10 ** 29 + 7


def no_clocks():
    return [*other_kinds(), -1, -LONG, "", "0", "1", "a", (), (1,), (1, 2)]


class RuleTest(unittest.TestCase):
    def test_by_the_rule(self):
        for case in small_cases(6) + small_cases(2):
            state = case.state()
            self.assertEqual(state.space(), case.space)
            self.assertEqual(state.held(), case.own_held())
            self.assertEqual(state.base(), case.own_base())
            self.assertEqual(state.freedom, len(case.own_base()))
            self.assertEqual(len(state), len(case.own_held()))
            self.assertEqual(state.clock, max([setting[1] for setting in case.settings], default=0))
            values = case.own_values()
            self.assertEqual(state.all_values(), values)
            self.assertEqual(list(state.all_values()), case.fields)
            for field in case.fields:
                self.assertEqual(state.value_of(field), values[field])
                self.assertEqual(state.expression(field), case.own_expression(field))
                self.assertEqual(list(state.expression(field)), list(case.own_expression(field)))
                wanted = [setting for setting in case.own_held() if setting[3] == field]
                self.assertEqual(state.setting_of(field), wanted[0] if wanted else None)

    def test_any_sequence_and_repeated_settings(self):
        source = random.Random(8)
        for case in small_cases(6):
            given = source.sample(case.settings, len(case.settings)) * 2
            self.assertEqual(State(case.space, given), case.state())
            self.assertEqual(State(case.space, tuple(given)), case.state())
            self.assertEqual(State(case.space, given).all_values(), case.state().all_values())

    def test_the_held_settings_alone(self):
        for case in small_cases(6):
            state = case.state()
            self.assertEqual(State(case.space, state.held(), clock=state.clock), state)

    def test_always_true(self):
        source = random.Random(9)
        for width in [2, 3, 5, 8, 12]:
            for count in range(width):
                rows = [long_row(source, width) for _ in range(count)]
                case = Small(width, rows, random_settings(source, linear.LETTERS[:width], 2 * width))
                values = case.state().all_values()
                for row in rows + case.space.rows():
                    self.assertEqual(value_total(row, values), 0)
                for setting in case.state().held():
                    self.assertEqual(values[setting[3]], setting[4])

    def test_values_of_fields_that_are_held_from_the_beginning(self):
        for case in small_cases(3):
            state = case.state()
            for field in state.base():
                if state.setting_of(field) is None:
                    self.assertEqual(state.value_of(field), 0)
                self.assertEqual(state.expression(field), {field: 1})


def long_row(source, width):
    return tuple([source.choice([0, 1, -2, source.randint(-LONG, LONG)]) for _ in range(width)])


class KnownStateTest(unittest.TestCase):
    def test_known_states(self):
        state = State(ABS, [FIRST, SECOND, THIRD])
        self.assertEqual(state.held(), [THIRD, SECOND])
        self.assertEqual([state.clock, state.freedom, len(state)], [3, 2, 2])
        self.assertEqual(state.base(), ["b", "s"])
        self.assertEqual([state.setting_of(field) for field in "abs"], [None, THIRD, SECOND])
        self.assertEqual([state.value_of(field) for field in "abs"], [6, 4, 10])
        self.assertEqual(state.all_values(), {"a": 6, "b": 4, "s": 10})
        self.assertEqual(state.expression("a"), {"b": -1, "s": 1})
        self.assertEqual(state.expression("b"), {"b": 1})
        self.assertEqual(state.space(), ABS)

    def test_no_settings(self):
        for state in [State(ABS), State(ABS, []), State(ABS, ()), State(space=ABS, settings=[])]:
            self.assertEqual([state.held(), state.base(), state.clock, len(state)], [[], ["a", "b"], 0, 0])
            self.assertEqual(state.all_values(), {"a": 0, "b": 0, "s": 0})
            self.assertEqual(repr(state), "State(['a', 'b'], 0)")

    def test_no_freedom(self):
        state = State(Space(Sheet(["a"]), [(2,)]), [(2, 7, "ann", "a", 5)])
        self.assertEqual([state.held(), state.base(), state.freedom, state.clock], [[], [], 0, 7])
        self.assertEqual([state.all_values(), state.expression("a"), len(state)], [{"a": 0}, {}, 0])
        self.assertEqual(repr(state), "State([], 7)")

    def test_fractions(self):
        space = Space(SHEET, [(2, 3, -5)])
        state = State(space, [(0, 1, "ann", "a", (1, 2)), (0, 2, "ann", "b", (1, 3))])
        self.assertEqual(state.all_values(), {"a": (1, 2), "b": (1, 3), "s": (2, 5)})
        self.assertEqual(state.expression("s"), {"b": (3, 5), "a": (2, 5)})

    def test_clock(self):
        self.assertEqual(State(ABS, [FIRST, SECOND]).clock, 2)
        self.assertEqual(State(ABS, [FIRST, SECOND], clock=0).clock, 2)
        self.assertEqual(State(ABS, [FIRST, SECOND], clock=1).clock, 2)
        self.assertEqual(State(ABS, [FIRST, SECOND], clock=LONG).clock, LONG)
        self.assertEqual(State(ABS, clock=5).clock, 5)
        # The setting of b with the greatest time is not held.
        settings = [(1, 1, "ann", "a", 3), (1, 2, "ann", "s", 3), (0, 9, "ann", "b", 3)]
        self.assertEqual([State(ABS, settings).clock, State(ABS, settings, clock=3).clock], [9, 9])
        self.assertEqual(State(ABS, settings).held(), settings[1::-1])

    def test_clock_by_name_only(self):
        with self.assertRaises(TypeError):
            State(ABS, [], 3)
        self.assertEqual(State(clock=3, settings=[FIRST], space=ABS).clock, 3)

    def test_repr(self):
        self.assertEqual(repr(State(ABS, [FIRST, SECOND, THIRD])), "State(['b', 's'], 3)")
        self.assertEqual(repr(State(ABS, [SECOND], clock=LONG)), f"State(['s', 'a'], {LONG})")


class EqualityTest(unittest.TestCase):
    def test_equal_states(self):
        state = State(ABS, [FIRST, SECOND, THIRD])
        for other in [State(ABS, [THIRD, SECOND]), State(Space(SHEET, [(-2, -2, 2)]), (SECOND, THIRD)),
                      State(ABS, [THIRD, SECOND, FIRST, FIRST], clock=2)]:
            self.assertTrue(state == other)
            self.assertFalse(state != other)

    def test_other_states(self):
        state = State(ABS, [FIRST, SECOND, THIRD])
        others = [
            State(ABS, [FIRST, SECOND]), State(ABS), State(ABS, [THIRD, SECOND], clock=4),
            State(Space(SHEET), [THIRD, SECOND]), State(Space(Sheet(["s", "b", "a"]), [(-1, 1, 1)]), [THIRD, SECOND]),
            State(ABS, [THIRD, (0, 2, "bo", "s", 11)]), State(ABS, [THIRD, (0, 2, "ann", "s", 10)]),
            State(ABS, [THIRD, (1, 2, "bo", "s", 10)]), State(ABS, [THIRD, (0, 1, "bo", "s", 10)]),
            # The same values, but not the same held settings.
            State(ABS, [(0, 3, "ann", "b", 4), (0, 2, "bo", "a", 6)]),
        ]
        for other in others:
            self.assertFalse(state == other)
            self.assertTrue(state != other)

    def test_values_of_other_kinds(self):
        state = State(ABS, [THIRD, SECOND])
        others = [*other_kinds(), ABS, SHEET, Replica("ann", SHEET), [THIRD, SECOND], "State(['b', 's'], 3)", 2, 3, (),
                  {"a": 6, "b": 4, "s": 10}]
        for other in others:
            self.assertIs(state == other, False, repr(other))
            self.assertIs(other == state, False, repr(other))
            self.assertIs(state != other, True)


class WrongArgumentTest(unittest.TestCase):
    def test_wrong_settings(self):
        for value in no_lists():
            self.assertEqual(error_of(InvalidSettings, State, ABS, value).index, -1)
        for value in no_settings():
            self.assertEqual(error_of(InvalidSettings, State, ABS, [value]).index, 0)
            self.assertEqual(error_of(InvalidSettings, State, ABS, (FIRST, FIRST, value, value)).index, 2)
        self.assertEqual(error_of(InvalidSettings, State, ABS, FIRST).index, 0)

    def test_wrong_clocks(self):
        for value in no_clocks():
            self.assertEqual(error_of(InvalidClock, State, ABS, [FIRST], clock=value).value, value)
            self.assertEqual(error_of(InvalidClock, State, ABS, clock=value).value, value)
            self.assertEqual(error_of(InvalidSettings, State, ABS, [FIRST, 1], clock=value).index, 1)
            self.assertEqual(error_of(InvalidSettings, State, ABS, None, clock=value).index, -1)

    def test_wrong_fields(self):
        state = State(ABS, [FIRST])
        for value in [*no_fields(), "c", EqualToAll()]:
            for method in [state.setting_of, state.value_of, state.expression]:
                self.assertEqual(error_of(UnknownField, method, value).value, value)
                self.assertEqual(error_of(UnknownField, method, field=value).value, value)


class SharingTest(unittest.TestCase):
    def test_later_changes_of_the_settings(self):
        given = [FIRST, SECOND]
        state = State(ABS, given)
        given.append(THIRD)
        del given[0]
        self.assertEqual(given, [SECOND, THIRD])
        self.assertEqual(state, State(ABS, [FIRST, SECOND]))
        self.assertEqual(state.value_of("a"), 3)

    def test_results_belong_to_the_caller(self):
        state = State(ABS, [FIRST, SECOND, THIRD])
        calls = [state.held, state.base, state.all_values, lambda: state.expression("a"), lambda: state.expression("b")]
        for call in calls:
            before = call()
            spoil(call())
            self.assertEqual(call(), before)
        self.assertEqual(state, State(ABS, [FIRST, SECOND, THIRD]))
        self.assertEqual(repr(state), "State(['b', 's'], 3)")
        spoil(state.space().rows())
        self.assertEqual(state.space(), ABS)

    def test_by_name(self):
        state = State(ABS, [FIRST, SECOND])
        self.assertEqual([state.setting_of(field="a"), state.value_of(field="b"), state.expression(field="b")],
                         [FIRST, 7, {"s": 1, "a": -1}])


if __name__ == "__main__":
    unittest.main()
