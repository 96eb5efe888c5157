"""Guarantees of point [4] for states: FEW, BEST, VALUES DECIDE NOTHING, PARTS."""

import itertools
import random
import unittest

import linear
from lastheld.states import State
from models import random_settings, small_cases


def without_values(settings):
    return [setting[:4] for setting in settings]


def with_other_values(source, settings):
    return [(*setting[:4], source.choice([0, 5, -5, (1, 7), 10 ** 20])) for setting in settings]


class StateGuaranteeTest(unittest.TestCase):
    def test_few(self):
        for case in small_cases(7):
            state = case.state()
            self.assertEqual(len(state.base()), state.freedom)
            self.assertEqual(state.freedom, case.width - linear.rank(case.width, case.equations))
            self.assertLessEqual(len(state), state.freedom)
            self.assertEqual([setting[3] for setting in state.held()], state.base()[:len(state)])

    def test_best(self):
        for case in small_cases(5):
            kept = case.state().held()
            for length in range(len(case.settings) + 1):
                for chosen in itertools.combinations(case.settings, length):
                    if linear.are_free(case.found, case.places(chosen)):
                        self.assertGreaterEqual(len(kept), length)
                        for own, other in zip(kept, case.sorted(chosen)):
                            self.assertGreaterEqual(case.key(own), case.key(other))

    def test_values_decide_nothing(self):
        source = random.Random(70)
        for case in small_cases(6):
            settings = list({setting[:4]: setting for setting in case.settings}.values())
            one, other = State(case.space, settings), State(case.space, with_other_values(source, settings))
            self.assertEqual(without_values(one.held()), without_values(other.held()))
            self.assertEqual([one.base(), one.clock, repr(one)], [other.base(), other.clock, repr(other)])
            for field in case.fields:
                self.assertEqual(one.expression(field), other.expression(field))
                self.assertEqual(one.least_level(field), other.least_level(field))
            for setting in random_settings(source, case.fields, 5):
                if setting[:4] not in without_values(settings):
                    changed = with_other_values(source, [setting])[0]
                    self.assertEqual(one.reason(setting), other.reason(changed))
                    self.assertEqual(one.holds(setting), other.holds(changed))

    def test_parts(self):
        source = random.Random(71)
        for case in small_cases(7):
            state = case.state()
            for part in case.space.components():
                inside = [setting for setting in case.settings if setting[3] in part]
                others = [field for field in case.fields if field not in part]
                more = random_settings(source, others, 4) if others else []
                for given in [inside, inside + more]:
                    other = State(case.space, given)
                    self.assertEqual([setting for setting in other.held() if setting[3] in part],
                                     [setting for setting in state.held() if setting[3] in part])
                    for field in part:
                        self.assertEqual(other.value_of(field), state.value_of(field))
                        self.assertEqual(other.setting_of(field), state.setting_of(field))


if __name__ == "__main__":
    unittest.main()
