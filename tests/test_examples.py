"""The examples of the document's interface, word for word."""

import ast
import unittest

ERRORS = """
>>> from lastheld.errors import Refused
>>> error = Refused("a", 0, {"s": 1})
>>> [error.field, error.level, error.cause, isinstance(error, RuntimeError)]
['a', 0, {'s': 1}, True]
"""

RATIONALS = """
>>> from lastheld.rationals import divided, is_number, number, plus, times
>>> [number(6, -4), plus((1, 2), (1, 3), 2), times((1, 2), 4), divided(7, (2, 3)), is_number((2, 4)), is_number((3, 1))]
[(-3, 2), (17, 6), 2, (21, 2), False, False]
"""

NUMBER_TEXTS = """
>>> from lastheld.rationals import number_text, parse_number
>>> [number_text((-7, 3)), parse_number("12"), parse_number("1/2")]
['-7/3', 12, (1, 2)]
"""

WRONG_NUMBER_TEXT = """
>>> from lastheld.rationals import parse_number
>>> parse_number("2/4")
raises InvalidText(line=1)
"""

SHEETS = """
>>> from lastheld.sheets import Sheet
>>> sheet = Sheet(["a", "b", "s"])
>>> [sheet.fields(), sheet.width, sheet.place("s"), sheet.equation(s=-1, a=1, b=1), str(sheet), sheet == Sheet.read("a b s")]
[['a', 'b', 's'], 3, 2, (1, 1, -1), 'a b s', True]
"""

EQUATION_TEXTS = """
>>> from lastheld.sheets import Sheet
>>> sheet = Sheet(["a", "b", "s"])
>>> [sheet.equation_text((1, 0, -2)), sheet.equation_text((0, 0, 0)), sheet.parse_equation("-3 b"), sheet.is_equation([1, 1, 1])]
['1 a -2 s', '0', (0, -3, 0), False]
"""

WRONG_FIELDS = """
>>> from lastheld.sheets import Sheet
>>> Sheet(["a", "b", "a"])
raises InvalidFields(index=2)
"""

SPACES = """
>>> from lastheld.sheets import Sheet
>>> from lastheld.spaces import Space
>>> space = Space(Sheet(["a", "b", "s"]), [(1, 1, -1), (0, 3, -1)])
>>> [space, space.freedom, space.follows((3, 3, -3)), space.combination((3, 3, -3)), space.combination((1, 0, 0))]
[Space(['a', 'b', 's'], [(3, 0, -2), (0, 3, -1)]), 1, True, [1, 1], None]
"""

EXPRESSIONS = """
>>> from lastheld.sheets import Sheet
>>> from lastheld.spaces import Space
>>> space = Space(Sheet(["a", "b", "s"]), [(2, 1, -1)])
>>> [space.are_free(["a", "s"]), space.determined(["b", "s"]), space.expression("a", ["b", "s"]), space.identity("a", ["b", "s"])]
[True, ['a', 'b', 's'], {'b': (-1, 2), 's': (1, 2)}, [(1, 2)]]
"""

ZERO_FIELDS = """
>>> from lastheld.sheets import Sheet
>>> from lastheld.spaces import Space
>>> space = Space(Sheet(["a", "b"]), [(1, 1), (1, -1)])
>>> [space.rows(), space.zero_fields(), space.determined([]), space.expression("a", [])]
[[(1, 0), (0, 1)], ['a', 'b'], ['a', 'b'], {}]
"""

NOT_DETERMINED = """
>>> from lastheld.sheets import Sheet
>>> from lastheld.spaces import Space
>>> Space(Sheet(["a", "b", "s"]), [(1, 1, -1)]).expression("s", ["a"])
raises NotDetermined(field='s')
"""

COMPONENTS = """
>>> from lastheld.sheets import Sheet
>>> from lastheld.spaces import Space
>>> Space(Sheet(["a", "x", "b", "y", "z"]), [(1, 0, -2, 0, 0), (0, 3, 0, 1, 0)]).components()
[('a', 'b'), ('x', 'y'), ('z',)]
"""

SETTINGS = """
>>> from lastheld.settings import is_setting, is_stronger
>>> from lastheld.sheets import Sheet
>>> sheet = Sheet(["a", "b"])
>>> [is_stronger(sheet, (0, 5, "bo", "a", 1), (0, 5, "ann", "b", 9)), is_stronger(sheet, (0, 9, "bo", "a", 1), (1, 2, "ann", "b", 9)), is_setting(sheet, (0, 0, "ann", "a", 1))]
[True, False, False]
"""

HOLDING = """
>>> from lastheld.holding import base, held, holding_steps
>>> from lastheld.sheets import Sheet
>>> from lastheld.spaces import Space
>>> space = Space(Sheet(["a", "b", "s"]), [(1, 1, -1)])
>>> settings = [(0, 1, "ann", "a", 3), (0, 2, "bo", "s", 10), (0, 3, "ann", "b", 4)]
>>> [held(space, settings[:2]), base(space, settings[:1]), [is_held for setting, is_held in holding_steps(space, settings)]]
[[(0, 2, 'bo', 's', 10), (0, 1, 'ann', 'a', 3)], ['a', 'b'], [True, True, False]]
"""


def shown_error(error):
    """An error as the examples write it: its class, and its fields in their sequence."""
    fields = [f"{name}={value!r}" for name, value in vars(error).items()]
    return f"raises {error.__class__.__name__}" + (f"({', '.join(fields)})" if fields else "")


def executed(line, names):
    """What a line of an example shows: None, the repr of its result, or its error."""
    is_expression = isinstance(ast.parse(line).body[0], ast.Expr)
    try:
        if not is_expression:
            exec(line, names)
            return None
        result = eval(line, names)
    except Exception as error:
        return shown_error(error)
    return None if result is None else repr(result)


def transcript(example):
    """An example, with the results that its lines have now."""
    names = {}
    rows = []
    for row in example.strip().splitlines():
        if row.startswith(">>> "):
            rows.append(row)
            shown = executed(row.removeprefix(">>> "), names)
            if shown is not None:
                rows.append(shown)
    return "\n".join(rows)


class ExampleTest(unittest.TestCase):
    maxDiff = None

    def assert_example(self, example):
        self.assertEqual(transcript(example), example.strip())

    def test_errors(self):
        self.assert_example(ERRORS)

    def test_rationals(self):
        self.assert_example(RATIONALS)

    def test_number_texts(self):
        self.assert_example(NUMBER_TEXTS)

    def test_wrong_number_text(self):
        self.assert_example(WRONG_NUMBER_TEXT)

    def test_sheets(self):
        self.assert_example(SHEETS)

    def test_equation_texts(self):
        self.assert_example(EQUATION_TEXTS)

    def test_wrong_fields(self):
        self.assert_example(WRONG_FIELDS)

    def test_spaces(self):
        self.assert_example(SPACES)

    def test_expressions(self):
        self.assert_example(EXPRESSIONS)

    def test_zero_fields(self):
        self.assert_example(ZERO_FIELDS)

    def test_not_determined(self):
        self.assert_example(NOT_DETERMINED)

    def test_components(self):
        self.assert_example(COMPONENTS)

    def test_settings(self):
        self.assert_example(SETTINGS)

    def test_holding(self):
        self.assert_example(HOLDING)


if __name__ == "__main__":
    unittest.main()
