"""Which settings hold in a state, and states with more: point [13], the guarantee REASONS, the item "holds"."""

import random
import unittest

import linear
from lastheld.errors import InvalidEquation, InvalidSetting, OtherSheet, UnknownField
from lastheld.holding import held
from lastheld.settings import is_stronger
from lastheld.sheets import Sheet
from lastheld.spaces import Space
from lastheld.states import State
from models import random_settings, small_cases
from values import error_of, no_equations, no_fields, no_settings, spoil

SHEET = Sheet(["a", "b", "s"])
ABS = Space(SHEET, [(1, 1, -1)])
FIRST = (2, 1, "ann", "a", 3)
SECOND = (1, 2, "bo", "s", 10)
STATE = State(ABS, [FIRST, SECOND])


class HoldsTest(unittest.TestCase):
    def test_against_the_held_settings_of_all(self):
        source = random.Random(12)
        for case in small_cases(5):
            state = case.state()
            for setting in case.settings + random_settings(source, case.fields, 8):
                wanted = setting in held(case.space, case.settings + [setting])
                self.assertIs(state.holds(setting), wanted)
                self.assertEqual(state.reason(setting), None if wanted else case.own_expression(setting[3]))

    def test_by_the_stronger_held_settings(self):
        source = random.Random(13)
        for case in small_cases(5):
            for setting in random_settings(source, case.fields, 8):
                stronger = [own for own in case.own_held() if case.key(own) > case.key(setting)]
                place = case.fields.index(setting[3])
                wanted = not linear.determine(case.found, case.places(stronger), place)
                self.assertIs(case.state().holds(setting), wanted)

    def test_a_held_setting_holds(self):
        for case in small_cases(6):
            state = case.state()
            for setting in state.held():
                self.assertIs(state.holds(setting), True)
                self.assertIsNone(state.reason(setting))

    def test_reasons(self):
        source = random.Random(14)
        count = 0
        for case in small_cases(6):
            state = case.state()
            for setting in random_settings(source, case.fields, 8):
                reason = state.reason(setting)
                if reason is not None:
                    count += 1
                    self.assertEqual(reason, state.expression(setting[3]))
                    self.assertEqual(list(reason), list(state.expression(setting[3])))
                    for field in reason:
                        self.assertTrue(is_stronger(case.space.sheet(), state.setting_of(field), setting))
        self.assertGreater(count, 100)

    def test_known_settings(self):
        self.assertIs(STATE.holds((0, 9, "bo", "b", 1)), False)
        self.assertEqual(STATE.reason((0, 9, "bo", "b", 1)), {"a": -1, "s": 1})
        self.assertIs(STATE.holds((1, 9, "bo", "b", 1)), True)
        self.assertIsNone(STATE.reason((1, 9, "bo", "b", 1)))
        self.assertEqual(STATE.reason((1, 1, "bo", "b", 1)), {"a": -1, "s": 1})
        self.assertEqual(STATE.reason((1, 9, "bo", "a", 1)), {"a": 1})
        self.assertEqual(STATE.reason((0, 9, "bo", "s", 1)), {"s": 1})
        self.assertIs(STATE.holds((1, 2, "bo", "s", 11)), True)
        self.assertEqual(STATE.reason((1, 2, "bo", "s", 9)), {"s": 1})
        self.assertIs(State(ABS).holds((0, 1, "bo", "s", 11)), True)

    def test_fields_that_are_held_from_the_beginning_are_no_reason(self):
        state = State(ABS, [FIRST])
        for field in "bs":
            self.assertIs(state.holds((0, 1, "a", field, 5)), True)

    def test_zero_fields(self):
        state = State(Space(SHEET, [(1, 0, 0)]))
        self.assertIs(state.holds((2, 99, "ann", "a", 0)), False)
        self.assertEqual(state.reason((2, 99, "ann", "a", 0)), {})

    def test_wrong_settings(self):
        for value in no_settings():
            for method in [STATE.holds, STATE.reason, STATE.with_setting]:
                self.assertEqual(error_of(InvalidSetting, method, value).value, value)
                self.assertEqual(error_of(InvalidSetting, method, setting=value).value, value)


class LeastLevelTest(unittest.TestCase):
    def test_by_the_definition(self):
        for case in small_cases(4):
            state = case.state()
            time = max([setting[1] for setting in state.held()], default=0) + 1
            for field in case.fields:
                levels = [level for level in [0, 1, 2] if state.holds((level, time, "a", field, 0))]
                self.assertEqual(state.least_level(field), levels[0] if levels else 3)
                self.assertEqual(levels, list(range(state.least_level(field), 3)))

    def test_known_levels(self):
        self.assertEqual([STATE.least_level(field) for field in "abs"], [2, 1, 1])
        self.assertEqual([State(ABS, [FIRST]).least_level(field) for field in "abs"], [2, 0, 0])
        self.assertEqual([State(ABS).least_level(field=field) for field in "abs"], [0, 0, 0])
        zero = State(Space(SHEET, [(1, 0, 0)]), [(2, 1, "ann", "b", 1)])
        self.assertEqual([zero.least_level(field) for field in "abs"], [3, 2, 0])

    def test_wrong_fields(self):
        for value in [*no_fields(), "c"]:
            self.assertEqual(error_of(UnknownField, STATE.least_level, value).value, value)


class WithMoreTest(unittest.TestCase):
    def test_with_setting(self):
        source = random.Random(15)
        for case in small_cases(5):
            state = case.state()
            for setting in random_settings(source, case.fields, 3):
                longer = state.with_setting(setting)
                self.assertEqual(longer, State(case.space, case.settings + [setting]))
                self.assertEqual(longer == State(case.space, state.held(), clock=longer.clock),
                                 setting in state.held() or not state.holds(setting))
            self.assertEqual(state, case.state())

    def test_the_greater_clock(self):
        state = State(ABS, [SECOND], clock=8)
        self.assertEqual(state.with_setting((0, 5, "ann", "a", 1)).clock, 8)
        self.assertEqual(state.with_setting((0, 9, "ann", "a", 1)).clock, 9)
        self.assertEqual(state.with_setting((0, 9, "ann", "s", 1)), State(ABS, [SECOND], clock=9))
        self.assertEqual(state.with_setting(setting=SECOND), state)
        self.assertEqual(state.with_equation((1, 0, 0)).clock, 8)

    def test_with_equation(self):
        source = random.Random(16)
        for case in small_cases(5):
            state = case.state()
            for equation in [linear.random_row(source, case.width), tuple([0] * case.width), *case.equations[:1]]:
                longer = state.with_equation(equation)
                self.assertEqual(longer, State(case.space.with_equations(equation), case.settings))
                self.assertEqual(longer == state, case.space.follows(equation))
            self.assertEqual(state, case.state())

    def test_wrong_equations(self):
        for value in no_equations():
            self.assertEqual(error_of(InvalidEquation, STATE.with_equation, value).value, value)
            self.assertEqual(error_of(InvalidEquation, STATE.with_equation, equation=value).value, value)

    def test_the_state_itself_stays(self):
        state = State(ABS, [FIRST, SECOND])
        before = [state.held(), state.base(), state.all_values(), state.clock, repr(state), state.space()]
        state.with_setting((2, 9, "ann", "b", 9))
        state.with_equation((0, 1, 0))
        state.holds((2, 9, "ann", "b", 9))
        spoil(state.reason((0, 9, "bo", "b", 1)))
        state.changed_fields(state.with_equation((0, 1, 0)))
        self.assertEqual([state.held(), state.base(), state.all_values(), state.clock, repr(state), state.space()], before)
        self.assertEqual(state, STATE)


class ChangedFieldsTest(unittest.TestCase):
    def test_drawn_states(self):
        for one, other in zip(small_cases(4), small_cases(4, seed=5)):
            first, second = one.own_values(), other.own_values()
            wanted = [field for field in one.fields if first[field] != second[field]]
            self.assertEqual(one.state().changed_fields(other.state()), wanted)
            self.assertEqual(other.state().changed_fields(one.state()), wanted)

    def test_known_fields(self):
        self.assertEqual(STATE.changed_fields(STATE.with_equation((0, 1, 0))), ["b", "s"])
        self.assertEqual(STATE.changed_fields(other=State(ABS)), ["a", "b", "s"])
        self.assertEqual(STATE.changed_fields(STATE), [])
        found = STATE.changed_fields(State(ABS))
        found.clear()
        self.assertEqual(STATE.changed_fields(State(ABS)), ["a", "b", "s"])

    def test_another_space_of_the_same_sheet(self):
        self.assertEqual(State(ABS, [FIRST]).changed_fields(State(Space(SHEET), [FIRST])), ["s"])

    def test_another_sheet(self):
        for fields in [["a", "b"], ["b", "a", "s"], ["a", "b", "c"], ["a", "b", "s", "t"]]:
            other = State(Space(Sheet(fields)))
            self.assertEqual(error_of(OtherSheet, STATE.changed_fields, other).index, 0)
            self.assertEqual(error_of(OtherSheet, other.changed_fields, STATE).index, 0)


if __name__ == "__main__":
    unittest.main()
