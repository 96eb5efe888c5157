"""Joins and forecasts: points [19] and [20] of the document, ONE STATE and FORECASTS of point [4]."""

import inspect
import itertools
import random
import unittest

import linear
from lastheld.errors import OtherSheet
from lastheld.holding import held
from lastheld.joining import brings_nothing, forecast, join_steps, joined
from lastheld.sheets import Sheet
from lastheld.spaces import Space
from lastheld.states import State
from models import Small, random_settings
from values import error_of, spoil

SHEET = Sheet(["a", "b", "s"])
ABS = Space(SHEET, [(1, 1, -1)])
ONE = State(ABS, [(0, 1, "ann", "a", 3), (0, 2, "ann", "b", 4)])
OTHER = State(ABS, [(0, 1, "ann", "a", 3), (0, 2, "bo", "s", 10)])
STRANGE = State(Space(Sheet(["a", "s", "b"])))


def drawn_states(source, count, common=3):
    """Some states of one sheet, which have settings and equations in common, as all that they were made of."""
    width = source.randint(1, 5)
    fields = linear.LETTERS[:width]
    shared = random_settings(source, fields, common)
    rows = [linear.random_row(source, width) for _ in range(source.randint(0, 2))]
    cases = []
    for _ in range(count):
        more = [linear.random_row(source, width) for _ in range(source.choice([0, 0, 1]))]
        settings = source.sample(shared, source.randint(0, common)) + random_settings(source, fields, 2)
        cases.append(Small(width, source.sample(rows, source.randint(0, len(rows))) + more, settings))
    return cases


def whole_case(cases):
    """All that some states were made of, together."""
    equations = [equation for case in cases for equation in case.equations]
    return Small(cases[0].width, equations, [setting for case in cases for setting in case.settings])


class JoinTest(unittest.TestCase):
    def test_of_all_settings_and_equations(self):
        source = random.Random(60)
        for count in [1, 2, 3, 4] * 25:
            cases = drawn_states(source, count)
            self.assertEqual(joined(*[case.state() for case in cases]), whole_case(cases).state())

    def test_by_the_words(self):
        source = random.Random(61)
        for _ in range(50):
            states = [case.state() for case in drawn_states(source, 3)]
            whole = joined(*states)
            space = Space.joined(*[state.space() for state in states])
            self.assertEqual(whole.space(), space)
            self.assertEqual(whole.held(), held(space, [setting for state in states for setting in state.held()]))
            self.assertEqual(whole.clock, max([state.clock for state in states]))

    def test_any_sequence_and_grouping(self):
        source = random.Random(62)
        for _ in range(25):
            states = [case.state() for case in drawn_states(source, 3)]
            wanted = joined(*states)
            for one, two, three in itertools.permutations(states):
                self.assertEqual(joined(one, two, three), wanted)
                self.assertEqual(joined(joined(one, two), three), wanted)
                self.assertEqual(joined(one, joined(two, three)), wanted)
                self.assertEqual(joined(one, one, two, three, two), wanted)

    def test_a_state_with_itself(self):
        source = random.Random(63)
        for _ in range(40):
            state = drawn_states(source, 1)[0].state()
            self.assertEqual([joined(state), joined(state, state), joined(state, state, state)], [state] * 3)

    def test_clocks(self):
        one, other = State(ABS, clock=7), State(ABS, [(0, 3, "ann", "a", 1)], clock=5)
        self.assertEqual([joined(one, other).clock, joined(other, one).clock, joined(other).clock], [7, 7, 5])

    def test_known_states(self):
        self.assertEqual(joined(ONE, OTHER).held(), [(0, 2, "bo", "s", 10), (0, 2, "ann", "b", 4)])
        self.assertEqual(joined(first=ONE), ONE)
        one = State(Space(SHEET, [(1, 0, 0)]), [(0, 1, "ann", "b", 4)])
        self.assertEqual(joined(one, OTHER).all_values(), {"a": 0, "b": 10, "s": 10})
        self.assertEqual([one, OTHER], [State(Space(SHEET, [(1, 0, 0)]), [(0, 1, "ann", "b", 4)]),
                                        State(ABS, [(0, 1, "ann", "a", 3), (0, 2, "bo", "s", 10)])])

    def test_other_sheets(self):
        for states, index in [([STRANGE], 1), ([OTHER, STRANGE], 2), ([STRANGE, STRANGE, ONE], 1),
                              ([OTHER, ONE, STRANGE, STRANGE], 3)]:
            self.assertEqual(error_of(OtherSheet, joined, ONE, *states).index, index)
            self.assertEqual(error_of(OtherSheet, list, join_steps(ONE, *states)).index, index)
        self.assertEqual(error_of(OtherSheet, joined, STRANGE, ONE).index, 1)


class StepsTest(unittest.TestCase):
    def test_steps(self):
        source = random.Random(64)
        for count in [1, 2, 3, 5] * 8:
            states = [case.state() for case in drawn_states(source, count)]
            wanted = [joined(*states[:length]) for length in range(1, count + 1)]
            self.assertEqual(list(join_steps(*states)), wanted)

    def test_a_generator(self):
        self.assertTrue(inspect.isgeneratorfunction(join_steps))
        steps = join_steps(ONE, OTHER)
        self.assertTrue(inspect.isgenerator(steps))
        self.assertEqual([next(steps), next(steps), next(steps, "end")], [ONE, joined(ONE, OTHER), "end"])
        self.assertEqual(list(join_steps(first=ONE)), [ONE])

    def test_errors_when_the_first_state_is_asked_for(self):
        steps = join_steps(ONE, OTHER, STRANGE)
        self.assertTrue(inspect.isgenerator(steps))
        self.assertEqual(error_of(OtherSheet, next, steps).index, 2)

    def test_two_generators_are_independent(self):
        one, two = join_steps(ONE, OTHER), join_steps(OTHER, ONE)
        self.assertEqual([next(one), next(two), next(one), next(two)],
                         [ONE, OTHER, joined(ONE, OTHER), joined(ONE, OTHER)])


class BringsNothingTest(unittest.TestCase):
    def test_drawn_states(self):
        source = random.Random(65)
        counts = {True: 0, False: 0}
        for _ in range(80):
            one, other = [case.state() for case in drawn_states(source, 2)]
            whole = joined(one, other)
            for state in [one, other, whole]:
                wanted = joined(one, state) == one
                counts[wanted] += 1
                self.assertIs(brings_nothing(one, state), wanted)
                self.assertIs(brings_nothing(whole, state), True)
        self.assertGreater(min(counts.values()), 50)

    def test_known_states(self):
        self.assertIs(brings_nothing(ONE, OTHER), False)
        self.assertIs(brings_nothing(ONE, State(ABS)), True)
        self.assertIs(brings_nothing(other=State(Space(SHEET)), state=ONE), True)
        # A greater clock is something.
        self.assertIs(brings_nothing(ONE, State(Space(SHEET), clock=3)), False)
        self.assertIs(brings_nothing(ONE, State(Space(SHEET), clock=2)), True)
        self.assertIs(brings_nothing(State(Space(SHEET)), State(ABS)), False)

    def test_another_sheet(self):
        self.assertEqual(error_of(OtherSheet, brings_nothing, ONE, STRANGE).index, 1)


class ForecastTest(unittest.TestCase):
    def test_by_the_words(self):
        source = random.Random(66)
        for _ in range(100):
            cases = drawn_states(source, 2)
            one, other = [case.state() for case in cases]
            found = forecast(one, other)
            whole = whole_case(cases)
            wanted = [[field for field in case.fields if own_terms(case, field) == own_terms(whole, field)]
                      for case in cases]
            self.assertEqual(found, (joined(one, other).held(), *wanted))
            self.assertEqual([found.__class__, found[0].__class__, found[1].__class__], [tuple, list, list])
            self.assertEqual(forecast(other, one), (found[0], found[2], found[1]))

    def test_steady_fields_keep_their_values(self):
        source = random.Random(67)
        for _ in range(150):
            one, other = [case.state() for case in drawn_states(source, 2)]
            whole = joined(one, other)
            for state, steady in zip([one, other], forecast(one, other)[1:]):
                for field in steady:
                    self.assertEqual(state.value_of(field), whole.value_of(field))

    def test_other_fields_may_change(self):
        source = random.Random(68)
        count = 0
        for _ in range(150):
            cases = drawn_states(source, 2)
            if not has_twins(cases):
                count += 1
                self.assert_change(source, cases)
        self.assertGreater(count, 100)

    def assert_change(self, source, cases):
        """For each field that is not steady some values are found with which it changes."""
        one, other = [case.state() for case in cases]
        found = forecast(one, other)
        for place, state in enumerate([one, other]):
            open_fields = {field for field in cases[0].fields if field not in found[1 + place]}
            for _ in range(30):
                values = {}
                drawn = [with_other_values(source, case, values) for case in cases]
                again = forecast(*drawn)
                self.assertEqual(again[1:], found[1:])
                open_fields -= set(drawn[place].changed_fields(joined(*drawn)))
            self.assertEqual(open_fields, set())

    def test_known_forecasts(self):
        settings = [(0, 2, "bo", "s", 10), (0, 2, "ann", "b", 4)]
        self.assertEqual(forecast(ONE, OTHER), (settings, ["b"], ["s"]))
        self.assertEqual(forecast(one=OTHER, other=ONE), (settings, ["s"], ["b"]))
        self.assertEqual(forecast(ONE, ONE), (ONE.held(), ["a", "b", "s"], ["a", "b", "s"]))
        self.assertEqual(forecast(State(ABS), State(Space(SHEET))), ([], ["a", "b", "s"], ["a", "b", "s"]))

    def test_settings_that_differ_in_one_part(self):
        for other in [(1, 1, "ann", "a", 3), (0, 2, "ann", "a", 3), (0, 1, "bo", "a", 3), (0, 1, "ann", "a", 4)]:
            found = forecast(State(ABS, [(0, 1, "ann", "a", 3)]), State(ABS, [other]))
            self.assertEqual(found, ([other], ["b"], ["a", "b", "s"]))

    def test_fields_from_the_beginning_are_left_out(self):
        # b is held from the beginning before; then a and s, both set, determine it: it was 0, and is 7 - 3.
        one, other = State(ABS, [(0, 1, "ann", "a", 3)]), State(ABS, [(0, 2, "ann", "s", 7)])
        self.assertEqual(forecast(one, other)[1:], (["a"], ["s"]))
        # Another field is held from the beginning afterwards, but no value depends on it.
        self.assertEqual(forecast(State(Space(SHEET)), State(ABS))[1:], (["a", "b", "s"], ["a", "b", "s"]))

    def test_results_belong_to_the_caller(self):
        before = forecast(ONE, OTHER)
        spoil(forecast(ONE, OTHER))
        self.assertEqual(forecast(ONE, OTHER), before)

    def test_another_sheet(self):
        self.assertEqual(error_of(OtherSheet, forecast, ONE, STRANGE).index, 1)


def own_terms(case, field):
    """The expression of a field by held settings, without the program."""
    settings = {setting[3]: setting for setting in case.own_held()}
    terms = case.own_expression(field)
    return {settings[given]: terms[given] for given in terms if given in settings}


def has_twins(cases):
    """Whether two of all settings differ in their values alone."""
    settings = {setting for case in cases for setting in case.settings}
    return len(settings) != len({setting[:4] for setting in settings})


def with_other_values(source, case, values):
    """The state with other values, the same ones for the same settings. values: those that were drawn so far."""
    settings = []
    for setting in case.settings:
        value = values.setdefault(setting[:4], source.randint(-10 ** 9, 10 ** 9))
        settings.append((*setting[:4], value))
    return State(case.space, settings)


if __name__ == "__main__":
    unittest.main()
