"""Held settings and the base: point [11] of the document, guarantees of point [4], the item "holding"."""

import copy
import inspect
import itertools
import random
import unittest

import linear
from lastheld.errors import InvalidSettings
from lastheld.holding import base, held, holding_steps
from lastheld.sheets import Sheet
from lastheld.spaces import Space
from models import Small, random_settings, small_cases
from values import error_of, no_lists, other_kinds

ABS = Space(Sheet(["a", "b", "s"]), [(1, 1, -1)])
SETTINGS = [(0, 1, "ann", "a", 3), (0, 2, "bo", "s", 10), (0, 3, "ann", "b", 4)]
NO_SETTINGS = [None, True, 1, "x", (), [], SETTINGS[0][:4], list(SETTINGS[0]), (True, 1, "ann", "a", 3),
               (0, True, "ann", "a", 3), (0, 0, "ann", "a", 3), (3, 1, "ann", "a", 3), (0, 1, "Ann", "a", 3),
               (0, 1, "ann", "c", 3), (0, 1, "ann", "a", (2, 4)), (0, 1, "ann", "a", True)]


class RuleTest(unittest.TestCase):
    def test_by_the_rule(self):
        for case in small_cases(7) + small_cases(2):
            wanted = case.own_held()
            self.assertEqual(held(case.space, case.settings), wanted)
            self.assertEqual(held(case.space, tuple(case.settings[::-1] * 2)), wanted)
            self.assertEqual(base(case.space, case.settings), case.own_base())
            self.assertEqual(base(case.space, tuple(case.settings[::-1])), case.own_base())
            steps = [(setting, setting in wanted) for setting in case.sorted(case.settings)]
            self.assertEqual(list(holding_steps(case.space, case.settings)), steps)
            self.assertEqual(list(holding_steps(case.space, tuple(case.settings * 2))), steps)

    def test_kinds_of_values(self):
        self.assertIs(held(ABS, SETTINGS).__class__, list)
        self.assertIs(base(ABS, SETTINGS).__class__, list)
        for step in holding_steps(ABS, SETTINGS):
            self.assertIs(step.__class__, tuple)
            self.assertIs(step[1].__class__, bool)

    def test_known_settings(self):
        self.assertEqual(held(ABS, SETTINGS), [SETTINGS[2], SETTINGS[1]])
        self.assertEqual(held(ABS, SETTINGS[:2]), [SETTINGS[1], SETTINGS[0]])
        self.assertEqual(base(ABS, SETTINGS), ["b", "s"])
        self.assertEqual(base(ABS, SETTINGS[:2]), ["s", "a"])
        self.assertEqual(base(ABS, SETTINGS[1:2]), ["s", "a"])
        self.assertEqual(base(ABS, SETTINGS[2:]), ["b", "a"])
        important = (1, 1, "ann", "a", 3)
        self.assertEqual(held(ABS, [*SETTINGS, important]), [important, SETTINGS[2]])
        self.assertEqual(held(ABS, [(0, 2, "ann", "a", 5), (0, 1, "ann", "a", 9)]), [(0, 2, "ann", "a", 5)])

    def test_zero_fields_are_never_held(self):
        space = Space(Sheet(["a", "b"]), [(1, 0)])
        self.assertEqual(held(space, [(2, 9, "ann", "a", 0), (0, 1, "ann", "b", 5)]), [(0, 1, "ann", "b", 5)])
        self.assertEqual(base(space, [(2, 9, "ann", "a", 0)]), ["b"])
        nothing = Space(Sheet(["a"]), [(1,)])
        self.assertEqual([held(nothing, [(2, 1, "x", "a", 1)]), base(nothing, [])], [[], []])

    def test_no_settings(self):
        self.assertEqual([held(ABS, []), held(ABS, ()), list(holding_steps(ABS, []))], [[], [], []])
        self.assertEqual([base(ABS, []), base(ABS, ())], [["a", "b"], ["a", "b"]])
        self.assertEqual(base(Space(Sheet(["s", "b", "a"])), []), ["s", "b", "a"])
        self.assertEqual(base(Space(Sheet(["a", "b", "s"]), [(0, 1, 0)]), []), ["a", "s"])

    def test_many_settings_of_twelve_fields(self):
        source = random.Random(2)
        for count in [0, 4, 9]:
            equations = [linear.random_row(source, 12) for _ in range(count)]
            case = Small(12, equations, random_settings(source, linear.LETTERS, 100))
            self.assertEqual(held(case.space, case.settings), case.own_held())
            self.assertEqual(base(case.space, case.settings), case.own_base())

    def test_by_name(self):
        self.assertEqual(held(settings=SETTINGS, space=ABS), [SETTINGS[2], SETTINGS[1]])
        self.assertEqual(base(settings=SETTINGS, space=ABS), ["b", "s"])
        self.assertEqual(len(list(holding_steps(settings=SETTINGS, space=ABS))), 3)


class GuaranteeTest(unittest.TestCase):
    def test_few(self):
        for case in small_cases(6):
            fields = base(case.space, case.settings)
            self.assertEqual(len(fields), case.space.freedom)
            self.assertTrue(linear.are_free(case.found, [case.fields.index(field) for field in fields]))
            self.assertEqual(case.space.determined(fields), case.fields)
            self.assertLessEqual(len(held(case.space, case.settings)), case.space.freedom)

    def test_best(self):
        for case in small_cases(6):
            kept = held(case.space, case.settings)
            for length in range(len(case.settings) + 1):
                for chosen in itertools.combinations(case.settings, length):
                    if linear.are_free(case.found, case.places(chosen)):
                        self.assertGreaterEqual(len(kept), length)
                        for own, other in zip(kept, case.sorted(chosen)):
                            self.assertGreaterEqual(case.key(own), case.key(other))

    def test_parts(self):
        for case in small_cases(7):
            for part in case.space.components():
                inside = [setting for setting in case.settings if setting[3] in part]
                kept = [setting for setting in held(case.space, case.settings) if setting[3] in part]
                self.assertEqual(held(case.space, inside), kept)

    def test_values_decide_nothing(self):
        source = random.Random(1)
        for case in small_cases(7):
            one_of_each = list({setting[:4]: setting for setting in case.settings}.values())
            changed = [(*setting[:4], source.choice([0, 5, -5, (1, 7)])) for setting in one_of_each]
            for function in [held, holding_steps]:
                before = [without_value(row) for row in function(case.space, one_of_each)]
                self.assertEqual([without_value(row) for row in function(case.space, changed)], before)
            fields = base(case.space, one_of_each)
            self.assertEqual(base(case.space, changed), fields)
            for field in case.fields:
                self.assertEqual(case.space.expression(field, base(case.space, changed)),
                                 case.space.expression(field, fields))

    def test_the_held_ones_and_the_rest_given_later(self):
        for case in small_cases(8):
            wanted = held(case.space, case.settings)
            self.assertEqual(held(case.space, wanted), wanted)
            for at in range(len(case.settings) + 1):
                first, rest = case.settings[:at], case.settings[at:]
                self.assertEqual(held(case.space, held(case.space, first) + rest), wanted)
                self.assertEqual(held(case.space, rest + held(case.space, first)), wanted)
                self.assertEqual(held(case.space, held(case.space, first) + held(case.space, rest)), wanted)

    def test_forgetting_before_equations_are_added(self):
        for case in small_cases(8):
            for at in range(len(case.equations) + 1):
                early = Space(Sheet(case.fields), case.equations[:at])
                kept = held(early, case.settings)
                self.assertEqual(held(case.space, kept), held(case.space, case.settings))
                self.assertEqual(base(case.space, kept), base(case.space, case.settings))


def without_value(row):
    """A setting, or a step, without the value."""
    return row[:4] if len(row) == 5 else (row[0][:4], row[1])


class GeneratorTest(unittest.TestCase):
    def test_a_generator(self):
        self.assertTrue(inspect.isgeneratorfunction(holding_steps))
        steps = holding_steps(ABS, SETTINGS)
        self.assertTrue(inspect.isgenerator(steps))
        self.assertEqual([next(steps) for _ in range(3)],
                         [(SETTINGS[2], True), (SETTINGS[1], True), (SETTINGS[0], False)])
        self.assertEqual(next(steps, "end"), "end")

    def test_errors_not_before_the_first_tuple(self):
        for value, index in [(None, -1), ({}, -1), ("x", -1), ([None], 0), ([SETTINGS[0], 5], 1), ((SETTINGS[0], ()), 1)]:
            steps = holding_steps(ABS, value)
            self.assertTrue(inspect.isgenerator(steps))
            self.assertEqual(error_of(InvalidSettings, next, steps).index, index)

    def test_changes_behind_the_first_tuple_have_no_effect(self):
        given = list(SETTINGS)
        steps = holding_steps(ABS, given)
        first = next(steps)
        given.clear()
        given.append(None)
        self.assertEqual([first, *steps], [(SETTINGS[2], True), (SETTINGS[1], True), (SETTINGS[0], False)])

    def test_two_generators_are_independent(self):
        one, two = holding_steps(ABS, SETTINGS), holding_steps(ABS, SETTINGS[:2])
        found = [next(one), next(two), next(one), next(two), next(one)]
        self.assertEqual([row[1] for row in found], [True, True, True, True, False])


class WrongArgumentTest(unittest.TestCase):
    def assert_wrong(self, settings, index):
        for function in [held, base]:
            self.assertEqual(error_of(InvalidSettings, function, ABS, settings).index, index, repr(settings))
            self.assertEqual(error_of(InvalidSettings, function, space=ABS, settings=settings).index, index)
        self.assertEqual(error_of(InvalidSettings, list, holding_steps(ABS, settings)).index, index)

    def test_wrong_lists(self):
        for value in [*no_lists(), {SETTINGS[0]: 1}, {SETTINGS[0]}]:
            self.assert_wrong(value, -1)
        self.assert_wrong(SETTINGS[0], 0)

    def test_wrong_items(self):
        for value in [*other_kinds(), *NO_SETTINGS]:
            self.assert_wrong([value], 0)
            self.assert_wrong((SETTINGS[0], SETTINGS[0], value, None), 2)

    def test_arguments_do_not_change(self):
        given = list(SETTINGS)
        before = copy.deepcopy(given)
        held(ABS, given).clear()
        base(ABS, given).clear()
        self.assertEqual(len(list(holding_steps(ABS, given))), 3)
        self.assertEqual(given, before)
        self.assertEqual(held(ABS, given), [SETTINGS[2], SETTINGS[1]])
        self.assertEqual(ABS, Space(Sheet(["a", "b", "s"]), [(1, 1, -1)]))


if __name__ == "__main__":
    unittest.main()
