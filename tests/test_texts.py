"""Texts of settings and states: point [24] of the document, and the file of the interface."""

import itertools
import random
import unittest

import linear
from histories import drawn_history
from lastheld.errors import InvalidSetting, InvalidText
from lastheld.rationals import times
from lastheld.sheets import Sheet
from lastheld.spaces import Space
from lastheld.states import State
from lastheld.texts import parse_setting, parse_state, setting_text, state_text
from models import Small, small_cases
from values import error_of, no_settings, other_kinds

SHEET = Sheet(["a", "b", "s"])
GOOD = "sheet a b s\nclock 3\nequation 1 a 1 b -1 s\nsetting 0 3 ann b 4\nsetting 0 2 bo s 1/2\n"
LONG = 10 ** 55


def no_strings():
    return [*other_kinds(), 0, 1, (), ("sheet a",), ["sheet a\n", "clock 0\n"], GOOD.encode()]


def own_number_text(value):
    return f"{value[0]}/{value[1]}" if isinstance(value, tuple) else str(value)


def own_lines(fields, clock, rows, settings):
    """The lines of the text of a state, by the words of point [24]."""
    lines = ["sheet " + " ".join(fields), f"clock {clock}"]
    for row in rows:
        words = [f"{number} {field}" for number, field in zip(row, fields) if number != 0]
        lines.append("equation " + " ".join(words))
    for level, time, replica, field, value in settings:
        lines.append(f"setting {level} {time} {replica} {field} {own_number_text(value)}")
    return lines


def text_of(lines):
    return "".join([line + "\n" for line in lines])


class SettingTest(unittest.TestCase):
    def test_texts(self):
        rows = [
            ((0, 3, "ann", "b", 4), "0 3 ann b 4"), ((2, 1, "a", "a", (-7, 3)), "2 1 a a -7/3"),
            ((1, LONG, "abcdefgh", "s", 0), f"1 {LONG} abcdefgh s 0"),
            ((0, 10, "s", "s", (1, LONG)), f"0 10 s s 1/{LONG}"), ((0, 1, "bo", "b", -LONG), f"0 1 bo b -{LONG}"),
        ]
        for setting, text in rows:
            self.assertEqual(setting_text(SHEET, setting), text)
            self.assertEqual(parse_setting(SHEET, text), setting)
            self.assertEqual(parse_setting(text=text, sheet=SHEET), setting)
            self.assertEqual(setting_text(setting=setting, sheet=SHEET), text)

    def test_drawn_settings(self):
        for case in small_cases(5):
            for setting in case.settings:
                text = setting_text(case.space.sheet(), setting)
                self.assertEqual(text, " ".join([*[str(part) for part in setting[:4]], own_number_text(setting[4])]))
                self.assertEqual(parse_setting(case.space.sheet(), text), setting)

    def test_wrong_settings(self):
        for value in no_settings():
            self.assertEqual(error_of(InvalidSetting, setting_text, SHEET, value).value, value)

    def test_wrong_values(self):
        for value in no_strings():
            self.assertEqual(error_of(InvalidText, parse_setting, SHEET, value).line, 0)

    def test_wrong_texts(self):
        texts = [
            "", " ", "0", "0 3 ann b", "0 3 ann b 4 5", "0 3 ann b 4 ", " 0 3 ann b 4", "0  3 ann b 4", "0 3 ann b 4\n",
            "\n0 3 ann b 4", "0\n3 ann b 4", "setting 0 3 ann b 4", "3 3 ann b 4", "-1 3 ann b 4", "00 3 ann b 4",
            "-0 3 ann b 4", "+0 3 ann b 4", "a 3 ann b 4", "0/1 3 ann b 4", "0 0 ann b 4", "0 -3 ann b 4", "0 03 ann b 4",
            "0 3/1 ann b 4", "0 1/2 ann b 4", "0 x ann b 4", "0 3 Ann b 4", "0 3 annabella b 4", "0 3 a1 b 4",
            "0 3 ann c 4", "0 3 ann B 4", "0 3 ann ab 4", "0 3 ann b 04", "0 3 ann b -0", "0 3 ann b +4", "0 3 ann b 4/1",
            "0 3 ann b 2/4", "0 3 ann b 1/-2", "0 3 ann b 1/02", "0 3 ann b 0/2", "0 3 ann b 1/0", "0 3 ann b 1/2/3",
            "0 3 ann b /2", "0 3 ann b 1/", "0 3 ann b x", "0 3 ann b 1_0", "0 3 ann b 4.0", "0 3 ann b 1 /2", "0 3 ann b -",
            "0,3,ann,b,4", "0 3 b ann 4", "(0, 3, 'ann', 'b', 4)", "1 3 ann  4", "0 3  b 4",
        ]
        for text in texts:
            self.assertEqual(error_of(InvalidText, parse_setting, SHEET, text).line, 1, repr(text))


class StateTest(unittest.TestCase):
    def test_known_texts(self):
        space = Space(SHEET, [(1, 1, -1)])
        state = State(space, [(0, 1, "ann", "a", 3), (0, 2, "bo", "s", (1, 2)), (0, 3, "ann", "b", 4)])
        self.assertEqual(state_text(state), GOOD)
        self.assertEqual(state_text(state=state), GOOD)
        self.assertEqual(parse_state(GOOD), state)
        self.assertEqual(parse_state(text=GOOD), state)
        self.assertEqual(state_text(State(Space(Sheet(["x"])))), "sheet x\nclock 0\n")
        self.assertEqual(parse_state("sheet x\nclock 0\n"), State(Space(Sheet(["x"]))))
        self.assertEqual(parse_state(f"sheet x\nclock {LONG}\nequation 1 x\n"),
                         State(Space(Sheet(["x"]), [(7,)]), clock=LONG))

    def test_drawn_states(self):
        for case in small_cases(6) + small_cases(2):
            state = case.state()
            lines = own_lines(case.fields, state.clock, state.space().rows(), case.own_held())
            self.assertEqual(state_text(state), text_of(lines))
            self.assertEqual(parse_state(text_of(lines)), state)

    def test_histories(self):
        source = random.Random(100)
        for _ in range(15):
            group = drawn_history(source)[0].group
            for name in group.names():
                self.assertEqual(parse_state(state_text(group.state(name))), group.state(name))

    def test_long_results(self):
        long = times(*[LONG + 1] * 90)
        state = State(Space(SHEET, [(1, 1, -1), (3, 0, -1)]), [(0, 1, "ann", "a", long)])
        self.assertGreater(len(state_text(state)), 4900)
        self.assertEqual(parse_state(state_text(state)), state)

    def test_wrong_values(self):
        for value in no_strings():
            self.assertEqual(error_of(InvalidText, parse_state, value).line, 0)


class SpoiltTextTest(unittest.TestCase):
    def assert_line(self, text, line):
        self.assertEqual(error_of(InvalidText, parse_state, text).line, line, repr(text))

    def test_texts_that_end_too_early(self):
        self.assert_line("", 1)
        self.assert_line("sheet a b s\n", 2)

    def test_a_last_line_without_a_line_feed(self):
        lines = GOOD.splitlines()
        for count in range(1, len(lines) + 1):
            self.assert_line("\n".join(lines[:count]), count)
            for length in range(1, len(lines[count - 1])):
                self.assert_line(text_of(lines[:count - 1]) + lines[count - 1][:length], count)

    def test_each_line_of_a_good_text(self):
        wrong = [
            [("", 1), ("sheet", 1), ("sheet ", 1), ("Sheet a b s", 1), ("sheet a b a", 1), ("sheet a  b s", 1),
             (" sheet a b s", 1), ("sheet a b s ", 1), ("sheet a b s 1", 1), ("sheet  a b s", 1), ("sheets a b s", 1),
             ("a b s", 1), ("sheet a b c d e f g h i j k l m", 1), ("sheet a B s", 1), ("clock 3", 1), ("sheet,a", 1),
             ("sheet abcdefghi", 1)],
            [("", 2), ("clock", 2), ("clock ", 2), ("clock  3", 2), ("clock 03", 2), ("clock -3", 2), ("clock -0", 2),
             ("clock +3", 2), ("clock 3 ", 2), (" clock 3", 2), ("clock 3/1", 2), ("clock 7/2", 2), ("clock x", 2),
             ("Clock 3", 2), ("3", 2), ("clock 3 3", 2), ("sheet a b s", 2), ("equation 1 a", 2), ("clock 00", 2)],
            [("", 3), ("equation", 3), ("equation ", 3), ("equation 0", 3), ("equation 2 a 2 b -2 s", 3),
             ("equation -1 a -1 b 1 s", 3), ("equation 1 a 1 b -1 s ", 3), ("equation  1 a 1 b -1 s", 3),
             ("equation 1 b 1 a -1 s", 3), ("equation 1 a 1 a", 3), ("equation 1 a 1 b -1 x", 3), ("equation 01 a", 3),
             ("equation 1 a 0 b -1 s", 3), ("equation a b", 3), ("equation 1 a 1 b -1", 3), ("equation 1/2 a", 3),
             ("equation 1 a 1 b - 1 s", 3), ("Equation 1 a", 3), ("1 a 1 b -1 s", 3), ("equation 1 a +1 b", 3),
             ("row 1 a", 3), ("equation 0 a", 3), ("clock 3", 3), ("sheet a b s", 3)],
            [("", 4), ("setting", 4), ("setting ", 4), ("setting 0 3 ann b", 4), ("setting 0 3 ann c 4", 4),
             ("setting 3 3 ann b 4", 4), ("setting 0 4 ann b 4", 4), ("setting 0 0 ann b 4", 4),
             ("setting 0 03 ann b 4", 4), ("setting 0 3 ann b -0", 4), ("setting 0 3 ann b 2/4", 4),
             ("setting 0 3 Ann b 4", 4), ("setting  0 3 ann b 4", 4), ("setting 0 3 ann b 4 ", 4), ("0 3 ann b 4", 4),
             ("clock 3", 4), ("Setting 0 3 ann b 4", 4), ("setting 0 3 ann b 4/1", 4), ("settings 0 3 ann b 4", 4)],
        ]
        lines = GOOD.splitlines()
        for at, rows in enumerate(wrong):
            for row, line in rows:
                self.assert_line(text_of([*lines[:at], row, *lines[at + 1:]]), line)
                self.assert_line(text_of([*lines[:at], row]), line)
                self.assert_line(text_of([*lines[:at], row]) + "x", line)

    def test_rows_that_are_no_normal_form(self):
        for rows, line in [
                (["1 a", "1 a"], 4), (["1 a", "1 a 1 b"], 4), (["1 a 1 b", "1 b"], 4), (["1 b", "1 a"], 4),
                (["1 a", "2 b"], 4), (["1 a", "-1 b"], 4), (["1 a", "0"], 4), (["1 a -1 s", "1 b -2 s", "1 s"], 5),
                (["1 a", "1 b", "1 s", "1 s"], 6), (["1 a", "1 b", "1 s", "0"], 6), (["1 a 2 b", "3 b -1 s"], 4),
                (["2 a 4 b"], 3), (["2 a -3 s", "2 b 2 s"], 4)]:
            text = text_of(["sheet a b s", "clock 9", *["equation " + row for row in rows]])
            self.assert_line(text, line)
            self.assert_line(text + "setting 0 1 ann a 1\n", line)

    def test_settings_that_are_not_held_or_in_another_sequence(self):
        head = ["sheet a b s", "clock 9", "equation 1 a 1 b -1 s"]
        for settings, line in [
                (["0 3 ann a 1", "0 3 ann a 1"], 5), (["0 3 ann a 1", "0 2 ann a 1"], 5), (["0 3 ann a 1", "0 4 ann b 1"], 5),
                (["0 3 ann a 1", "1 2 ann b 1"], 5), (["0 3 ann a 1", "0 3 bo b 1"], 5), (["0 3 ann a 1", "0 3 ann b 1"], 5),
                (["0 3 ann b 1", "0 3 ann a 1", "0 1 ann s 1"], 6), (["0 10 ann b 1"], 4),
                (["2 9 ann b 1", "1 10 ann a 1"], 5), (["0 3 ann a 1", "0 3 ann a 2"], 5), (["0 3 ann b 1", "1 1 bo s 1"], 5)]:
            text = text_of([*head, *["setting " + setting for setting in settings]])
            self.assert_line(text, line)
        self.assert_line(text_of([*head, "equation 1 b", "setting 0 3 ann b 1"]), 4)
        self.assert_line(text_of(["sheet a b", "clock 9", "equation 1 a", "setting 0 3 ann a 1"]), 4)
        self.assert_line(text_of(["sheet a", "clock 9", "equation 1 a", "setting 0 3 ann a 0"]), 4)

    def test_lines_in_another_sequence(self):
        lines = GOOD.splitlines()
        self.assert_line(text_of([lines[1], lines[0], *lines[2:]]), 1)
        self.assert_line(text_of([lines[0], *lines[2:], lines[1]]), 2)
        self.assert_line(text_of([*lines[:2], lines[3], lines[2], lines[4]]), 4)
        self.assert_line(text_of([*lines[:3], lines[4], lines[3]]), 5)
        self.assert_line(text_of([*lines, "equation 1 b"]), 6)
        self.assert_line(text_of([*lines, lines[2]]), 6)

    def test_lines_twice_and_empty_lines(self):
        lines = GOOD.splitlines()
        for at in range(len(lines)):
            self.assert_line(text_of([*lines[:at + 1], lines[at], *lines[at + 1:]]), at + 2)
            self.assert_line(text_of([*lines[:at], "", *lines[at:]]), at + 1)
        self.assert_line(GOOD + "\n", 6)
        self.assert_line(GOOD + " ", 6)
        self.assert_line("\n", 1)
        self.assert_line("\n" + GOOD, 1)


POOL = [
    "sheet a b", "sheet a b", "sheet a", "clock 0", "clock 1", "clock 2", "clock 2", "clock 01", "equation 1 a",
    "equation 1 b", "equation 1 a 1 b", "equation 1 a -2 b", "equation 2 a", "equation 2 a -3 b", "equation -1 b",
    "equation 0", "equation 2 a 2 b", "setting 0 1 ann a 1", "setting 0 2 ann a 1", "setting 0 1 ann b 1",
    "setting 0 1 ann b 1/2", "setting 1 1 ann b 1", "setting 0 1 bo b 1", "setting 1 2 bo a -1", "setting 0 1 ann b 2/4",
    "setting 0 3 ann b 1", "",
]
ROWS = [(1, 0), (0, 1), (1, 1), (1, -2), (2, -3)]
SETTINGS = [
    (0, 1, "ann", "a", 1), (0, 2, "ann", "a", 1), (0, 1, "ann", "b", 1), (0, 1, "ann", "b", (1, 2)), (1, 1, "ann", "b", 1),
    (0, 1, "bo", "b", 1), (1, 2, "bo", "a", -1),
]


def all_beginnings():
    """All lists of lines with which the texts of states begin that can be made of the lines of the pool."""
    texts = []
    for width in [1, 2]:
        rows = [row[:width] for row in ROWS if not any(row[width:])]
        settings = [setting for setting in SETTINGS if setting[3] in "ab"[:width]]
        for equations in itertools.chain(*[itertools.combinations(rows, count) for count in range(width + 1)]):
            normal = linear_normal_form(width, equations)
            if not all([row in rows for row in normal]):
                continue
            for count in range(width + 1):
                for chosen in itertools.combinations(settings, count):
                    held = Small(width, equations, list(chosen)).own_held()
                    for clock in range(max([setting[1] for setting in held], default=0), 3):
                        texts.append(own_lines("ab"[:width], clock, normal, held))
    return {tuple(lines[:count]) for lines in texts for count in range(len(lines) + 1)}


def linear_normal_form(width, equations):
    """The normal form of rows of one or two fields, with fractions."""
    if linear.rank(width, equations) == width:
        return [tuple([int(place == own) for place in range(width)]) for own in range(width)]
    # One row at most is left, and each row of ROWS is in normal form by itself.
    return [row for row in equations if any(row)][:1]


class EachBeginningTest(unittest.TestCase):
    def test_the_first_line_with_which_no_text_begins(self):
        source = random.Random(101)
        beginnings = all_beginnings()
        counts = {}
        for _ in range(4000):
            lines = self.drawn_lines(source, beginnings)
            wrong = [at for at in range(len(lines) + 1) if tuple(lines[:at]) not in beginnings]
            if not wrong and len(lines) >= 2:
                self.assertEqual(state_text(parse_state(text_of(lines))), text_of(lines))
                counts[0] = counts.get(0, 0) + 1
            else:
                wanted = wrong[0] if wrong else len(lines) + 1
                self.assertEqual(error_of(InvalidText, parse_state, text_of(lines)).line, wanted, text_of(lines))
                counts[wanted] = counts.get(wanted, 0) + 1
        self.assertGreater(min([counts[line] for line in [0, 1, 2, 3, 4, 5]]), 50)

    def drawn_lines(self, source, beginnings):
        """Lines that go on as a text of a state for the most part."""
        lines = []
        for _ in range(source.randint(0, 6)):
            line = source.choice(POOL)
            tries = 0
            while tuple([*lines, line]) not in beginnings and tries < 12:
                line = source.choice(POOL)
                tries += source.choice([1, 1, 6])
            lines.append(line)
        return lines


if __name__ == "__main__":
    unittest.main()
