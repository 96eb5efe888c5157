"""Settings: point [10] of the document, and the item "settings" of its interface."""

import copy
import itertools
import random
import unittest

import linear
from lastheld.errors import InvalidSetting, InvalidSettings
from lastheld.settings import is_setting, is_stronger, strongest_first
from lastheld.sheets import Sheet
from values import EqualToAll, error_of, no_lists, other_kinds

SHEET = Sheet(["net", "b", "a"])
LONG = 10 ** 55
GOOD = (0, 1, "ann", "a", 3)


def wrong_parts():
    """For each place of a setting, new values that do not stand there."""
    names = [*other_kinds(), 0, 1, "", "A", "Ann", "ann ", "a b", "abcdefghi", "a1", ("ann",)]
    numbers = [value for value in other_kinds()] + ["", "1", "1/2", "a"]
    return [
        [*numbers, -1, 3, 4, LONG, (1, 2), (1,)],
        [*numbers, 0, -1, -LONG, (1, 2), (1,)],
        names,
        [*names, "c", "gross", "ne", "netb", EqualToAll()],
        [*numbers, (), (1,), (2, 4), (3, 1), (0, 2), (1, -2), (1, 0), (True, 2), (1, True), (1, 2, 3), [1, 2], ("1", 2)],
    ]


def no_settings():
    """New values that are not settings of SHEET."""
    values = [*other_kinds(), 0, 1, "", "0 1 ann a 3", (), GOOD[:4], (*GOOD, 1), list(GOOD), (GOOD,), (GOOD, GOOD),
              dict(enumerate(GOOD)), GOOD[::-1], (0, 1, "a", "ann", 3), (1, 0, "ann", "a", 3)]
    for place, parts in enumerate(wrong_parts()):
        values += [(*GOOD[:place], part, *GOOD[place + 1:]) for part in parts]
    return values


def small_settings():
    """Settings that differ in one part or in several ones."""
    values = [-2, -1, 0, 3, (-7, 3), (1, 3), (1, 2), (2, 3), (5, 2)]
    whole = list(itertools.product([0, 1, 2], [1, 9, 10], ["ann", "anna", "bo"], ["net", "b", "a"], values))
    return random.Random(4).sample(whole, 80) + [(1, 9, "bo", "b", value) for value in values]


def own_key(setting):
    level, time, replica, field, value = setting
    return (level, time, replica, ["net", "b", "a"].index(field), linear.fraction_of(value))


class IsSettingTest(unittest.TestCase):
    def test_settings(self):
        for setting in [GOOD, (2, LONG, "abcdefgh", "net", (-1, LONG)), (1, 1, "a", "b", 0), (0, 5, "z", "a", -LONG),
                        (0, 1, "net", "net", (1, 2)), *small_settings()]:
            self.assertIs(is_setting(SHEET, setting), True, repr(setting))

    def test_other_values(self):
        for value in [*no_settings(), EqualToAll()]:
            self.assertIs(is_setting(SHEET, value), False, repr(value))

    def test_fields_of_another_sheet(self):
        other = Sheet(["net", "tax"])
        self.assertIs(is_setting(other, (0, 1, "ann", "tax", 3)), True)
        self.assertIs(is_setting(other, GOOD), False)
        self.assertIs(is_setting(SHEET, (0, 1, "ann", "tax", 3)), False)

    def test_by_name(self):
        self.assertIs(is_setting(value=GOOD, sheet=SHEET), True)
        self.assertIs(is_setting(value=[], sheet=SHEET), False)


class IsStrongerTest(unittest.TestCase):
    def test_each_part_decides(self):
        rows = [
            ((1, 1, "a", "net", 0), (0, 9, "z", "a", 9)),
            ((2, 1, "a", "net", 0), (1, 9, "z", "a", 9)),
            ((0, 10, "a", "net", 0), (0, 9, "z", "a", 9)),
            ((0, LONG + 1, "a", "net", 0), (0, LONG, "z", "a", 9)),
            ((0, 5, "bo", "net", 0), (0, 5, "ann", "a", 9)),
            ((0, 5, "anna", "net", 0), (0, 5, "ann", "a", 9)),
            ((0, 5, "b", "net", 0), (0, 5, "annabell", "a", 9)),
            ((0, 5, "ann", "a", 0), (0, 5, "ann", "b", 9)),
            ((0, 5, "ann", "b", 0), (0, 5, "ann", "net", 9)),
            ((0, 5, "ann", "a", 10), (0, 5, "ann", "a", 9)),
        ]
        for stronger, weaker in rows:
            self.assertIs(is_stronger(SHEET, stronger, weaker), True)
            self.assertIs(is_stronger(SHEET, weaker, stronger), False)
            self.assertIs(is_stronger(SHEET, stronger, stronger), False)
            self.assertIs(is_stronger(second=weaker, first=stronger, sheet=SHEET), True)

    def test_values(self):
        values = [-LONG, (-2 * LONG + 1, 2), (-5, 2), -1, (-1, LONG), 0, (1, LONG + 1), (1, LONG), (1, 3), (1, 2), (2, 3),
                  (LONG - 1, LONG), (LONG, LONG + 1), 1, (LONG + 1, LONG), (5, 4), (4, 3), 2, LONG - 1, (2 * LONG - 1, 2),
                  LONG]
        for (one, first), (two, second) in itertools.product(enumerate(values), repeat=2):
            given = [(1, 5, "ann", "b", value) for value in [first, second]]
            self.assertIs(is_stronger(SHEET, *given), one > two, (first, second))

    def test_of_two_different_settings_one_is_stronger(self):
        for first, second in itertools.product(small_settings(), repeat=2):
            self.assertIs(is_stronger(SHEET, first, second), own_key(first) > own_key(second))

    def test_the_sequence_of_the_sheet_decides(self):
        given = [(0, 1, "ann", "a", 1), (0, 1, "ann", "b", 1)]
        self.assertIs(is_stronger(Sheet(["a", "b"]), *given), False)
        self.assertIs(is_stronger(Sheet(["b", "a"]), *given), True)

    def test_wrong_settings(self):
        for value in no_settings():
            self.assertEqual(error_of(InvalidSetting, is_stronger, SHEET, value, GOOD).value, value)
            self.assertEqual(error_of(InvalidSetting, is_stronger, SHEET, value, None).value, value)
            self.assertEqual(error_of(InvalidSetting, is_stronger, SHEET, GOOD, value).value, value)
            self.assertEqual(error_of(InvalidSetting, is_stronger, SHEET, second="x", first=value).value, value)

    def test_errors_keep_what_was_passed(self):
        value = [0, 1, ["ann"]]
        error = error_of(InvalidSetting, is_stronger, SHEET, GOOD, value)
        value[2].append(5)
        self.assertEqual(error.value, [0, 1, ["ann"]])


class StrongestFirstTest(unittest.TestCase):
    def test_any_sequence_and_repetitions(self):
        source = random.Random(6)
        settings = small_settings()
        wanted = sorted(set(settings), key=own_key, reverse=True)
        self.assertEqual(strongest_first(SHEET, settings), wanted)
        for _ in range(10):
            given = source.sample(settings, len(settings)) + source.choices(settings, k=10)
            self.assertEqual(strongest_first(SHEET, given), wanted)
            self.assertEqual(strongest_first(SHEET, tuple(given)), wanted)

    def test_few_settings(self):
        self.assertEqual(strongest_first(SHEET, []), [])
        self.assertEqual(strongest_first(SHEET, ()), [])
        self.assertEqual(strongest_first(SHEET, [GOOD]), [GOOD])
        self.assertEqual(strongest_first(SHEET, (GOOD, GOOD, (*GOOD,))), [GOOD])
        self.assertEqual(strongest_first(settings=[GOOD], sheet=SHEET), [GOOD])
        rows = [(0, 1, "ann", "a", value) for value in [(1, 3), (1, 2), 0, (3, 4), (2, 3), (-1, 2)]]
        self.assertEqual([row[4] for row in strongest_first(SHEET, rows)],
                         [(3, 4), (2, 3), (1, 2), (1, 3), 0, (-1, 2)])

    def test_the_list_belongs_to_the_caller(self):
        given = [GOOD, (1, 1, "ann", "a", 3)]
        before = copy.deepcopy(given)
        found = strongest_first(SHEET, given)
        self.assertIs(found.__class__, list)
        self.assertEqual(given, before)
        found.clear()
        self.assertEqual(given, before)
        self.assertEqual(strongest_first(SHEET, given), before[::-1])

    def test_wrong_lists(self):
        for value in [*no_lists(), {GOOD: 1}, {GOOD}, "0 1 ann a 3", iter([GOOD])]:
            self.assertEqual(error_of(InvalidSettings, strongest_first, SHEET, value).index, -1, repr(value))
        self.assertEqual(error_of(InvalidSettings, strongest_first, SHEET, GOOD).index, 0)

    def test_wrong_items(self):
        for value in [*no_settings(), EqualToAll()]:
            for before, behind in [([], []), ([GOOD], []), ([GOOD, GOOD], [GOOD, value]), ([], [None, GOOD])]:
                for given in [[*before, value, *behind], (*before, value, *behind)]:
                    found = error_of(InvalidSettings, strongest_first, SHEET, given)
                    self.assertEqual(found.index, len(before), repr(given))


if __name__ == "__main__":
    unittest.main()
