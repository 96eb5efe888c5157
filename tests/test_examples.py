"""The examples of the document's interface, word for word."""

import ast
import unittest

ERRORS = """
>>> from lastheld.errors import Refused
>>> error = Refused("a", 0, {"s": 1})
>>> [error.field, error.level, error.cause, isinstance(error, RuntimeError)]
['a', 0, {'s': 1}, True]
"""

RATIONALS = """
>>> from lastheld.rationals import divided, is_number, number, plus, times
>>> [number(6, -4), plus((1, 2), (1, 3), 2), times((1, 2), 4), divided(7, (2, 3)), is_number((2, 4)), is_number((3, 1))]
[(-3, 2), (17, 6), 2, (21, 2), False, False]
"""

NUMBER_TEXTS = """
>>> from lastheld.rationals import number_text, parse_number
>>> [number_text((-7, 3)), parse_number("12"), parse_number("1/2")]
['-7/3', 12, (1, 2)]
"""

WRONG_NUMBER_TEXT = """
>>> from lastheld.rationals import parse_number
>>> parse_number("2/4")
raises InvalidText(line=1)
"""


def shown_error(error):
    """An error as the examples write it: its class, and its fields in their sequence."""
    fields = [f"{name}={value!r}" for name, value in vars(error).items()]
    return f"raises {error.__class__.__name__}" + (f"({', '.join(fields)})" if fields else "")


def executed(line, names):
    """What a line of an example shows: None, the repr of its result, or its error."""
    is_expression = isinstance(ast.parse(line).body[0], ast.Expr)
    try:
        if not is_expression:
            exec(line, names)
            return None
        result = eval(line, names)
    except Exception as error:
        return shown_error(error)
    return None if result is None else repr(result)


def transcript(example):
    """An example, with the results that its lines have now."""
    names = {}
    rows = []
    for row in example.strip().splitlines():
        if row.startswith(">>> "):
            rows.append(row)
            shown = executed(row.removeprefix(">>> "), names)
            if shown is not None:
                rows.append(shown)
    return "\n".join(rows)


class ExampleTest(unittest.TestCase):
    maxDiff = None

    def assert_example(self, example):
        self.assertEqual(transcript(example), example.strip())

    def test_errors(self):
        self.assert_example(ERRORS)

    def test_rationals(self):
        self.assert_example(RATIONALS)

    def test_number_texts(self):
        self.assert_example(NUMBER_TEXTS)

    def test_wrong_number_text(self):
        self.assert_example(WRONG_NUMBER_TEXT)


if __name__ == "__main__":
    unittest.main()
