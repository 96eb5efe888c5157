"""Sheets and equations: point [6] of the document, and the items on sheets of its interface."""

import copy
import itertools
import unittest

from lastheld.errors import InvalidEquation, InvalidFields, InvalidNumber, InvalidText, UnknownField
from lastheld.sheets import Sheet
from lastheld.spaces import Space
from values import EqualToAll, error_of, no_lists, other_kinds

TWELVE = ["a", "b", "c", "d", "e", "f", "g", "h", "i", "j", "k", "abcdefgh"]
LONG = 10 ** 59 + 7
NO_NAMES = ["", "A", "aB", "a1", "a b", " a", "a ", "abcdefghi", "-", "_", "a\n", "1", 0, 1, (), ("a",), ("a", "b")]


def no_names():
    return [*other_kinds(), *NO_NAMES, EqualToAll()]


class SheetTest(unittest.TestCase):
    def test_fields_in_sequence(self):
        for count in range(1, 13):
            for fields in [TWELVE[:count], TWELVE[:count][::-1]]:
                for given in [fields, tuple(fields)]:
                    sheet = Sheet(given)
                    self.assertEqual(sheet.fields(), fields)
                    self.assertIs(sheet.fields().__class__, list)
                    self.assertEqual(sheet.width, count)
                    self.assertEqual(len(sheet), count)
                    self.assertEqual(str(sheet), " ".join(fields))
                    self.assertEqual(repr(sheet), f"Sheet({fields!r})")

    def test_shown(self):
        self.assertEqual(str(Sheet(["net", "tax", "gross"])), "net tax gross")
        self.assertEqual(repr(Sheet(("net", "tax", "gross"))), "Sheet(['net', 'tax', 'gross'])")
        self.assertEqual(repr(Sheet(["a"])), "Sheet(['a'])")

    def test_most_fields(self):
        self.assertEqual(Sheet.MAX_FIELDS, 12)
        self.assertEqual(Sheet(["a"]).MAX_FIELDS, 12)

    def test_has_field(self):
        sheet = Sheet(["net", "tax", "a"])
        for value in ["net", "tax", "a"]:
            self.assertIs(sheet.has_field(value), True)
        for value in [*no_names(), "b", "ne", "nett", "net tax", ["net"], ("net",), b"net"]:
            self.assertIs(sheet.has_field(value), False, repr(value))

    def test_place(self):
        for at, field in enumerate(TWELVE):
            self.assertEqual(Sheet(TWELVE).place(field), at)
            self.assertEqual(Sheet(TWELVE[::-1]).place(field), 11 - at)
            self.assertEqual(Sheet(TWELVE).place(field=field), at)

    def test_place_of_other_values(self):
        sheet = Sheet(["net", "tax"])
        for value in [*other_kinds(), *NO_NAMES, "a", "nett", "ne", ("net",), ["net"]]:
            self.assertEqual(error_of(UnknownField, sheet.place, value).value, value)
        thing = EqualToAll()
        self.assertIs(error_of(UnknownField, sheet.place, thing).value, thing)

    def test_equality(self):
        names = [["a"], ["b"], ["a", "b"], ["b", "a"], ["a", "b", "c"], ["c", "b", "a"], TWELVE, TWELVE[::-1]]
        for first, second in itertools.product(names, repeat=2):
            self.assertIs(Sheet(first) == Sheet(tuple(second)), first == second)
            self.assertIs(Sheet(first) != Sheet(tuple(second)), first != second)

    def test_not_equal_to_other_kinds(self):
        sheet = Sheet(["a", "b"])
        for value in [*other_kinds(), "a b", ["a", "b"], ("a", "b"), "Sheet(['a', 'b'])", 2, Space(sheet)]:
            self.assertIs(sheet == value, False, repr(value))
            self.assertIs(value == sheet, False, repr(value))
            self.assertIs(sheet != value, True, repr(value))
            self.assertIs(value != sheet, True, repr(value))
        self.assertIs(sheet == EqualToAll(), False)
        self.assertIs(sheet != EqualToAll(), True)

    def test_by_name(self):
        sheet = Sheet(fields=["a", "b"])
        self.assertEqual(sheet, Sheet(["a", "b"]))
        self.assertIs(sheet.has_field(value="b"), True)
        self.assertIs(sheet.is_equation(value=(1, 2)), True)
        self.assertEqual(sheet.equation_text(equation=(1, 2)), "1 a 2 b")
        self.assertEqual(sheet.parse_equation(text="1 a"), (1, 0))
        self.assertEqual(Sheet.read(text="a b"), sheet)

    def test_lists_may_be_changed_afterwards(self):
        fields = ["a", "b"]
        sheet = Sheet(fields)
        fields.append("c")
        fields[0] = "d"
        self.assertEqual(sheet.fields(), ["a", "b"])
        returned = sheet.fields()
        returned.append("c")
        returned[0] = "d"
        self.assertEqual(sheet.fields(), ["a", "b"])
        self.assertEqual(sheet, Sheet(["a", "b"]))


class WrongFieldsTest(unittest.TestCase):
    def assert_wrong(self, fields, index):
        self.assertEqual(error_of(InvalidFields, Sheet, fields).index, index, repr(fields))
        self.assertEqual(error_of(InvalidFields, Sheet, fields=fields).index, index, repr(fields))

    def test_no_list_of_one_to_twelve(self):
        for value in no_lists():
            self.assert_wrong(value, -1)
        for value in [[], (), TWELVE + ["z"], tuple(TWELVE + ["z"]), ["A"] * 13, [1] * 20, {"a": 1, "b": 2}, {"a"}]:
            self.assert_wrong(value, -1)
        self.assert_wrong((name for name in ["a", "b"]), -1)

    def test_first_item_that_is_no_name(self):
        for value in no_names():
            for before, behind in [([], []), (["x"], []), (["x", "y"], ["x", value]), ([], ["x", "x", 5])]:
                self.assert_wrong([*before, value, *behind], len(before))
                self.assert_wrong((*before, value, *behind), len(before))

    def test_first_item_that_equals_an_earlier_one(self):
        for fields, index in [(["a", "a"], 1), (["a", "b", "a"], 2), (["a", "b", "b", "a"], 2), (["a", "a", "A"], 1),
                              (["a", "A", "a"], 1), (["b", "c", "a", "d", "a"], 4), (TWELVE[:11] + ["a"], 11)]:
            self.assert_wrong(fields, index)
            self.assert_wrong(tuple(fields), index)


class ReadTest(unittest.TestCase):
    def test_the_text_of_each_sheet(self):
        for fields in [["a"], ["z", "y"], ["net", "tax", "gross"], TWELVE, TWELVE[::-1]]:
            sheet = Sheet.read(" ".join(fields))
            self.assertIsInstance(sheet, Sheet)
            self.assertEqual(sheet.fields(), fields)
            self.assertEqual(str(sheet), " ".join(fields))

    def test_exactly_the_texts(self):
        words = ["a", "b", "abcdefgh", "abcdefghi", "A", "a1", "", "a\n", "-", ","]
        for length in range(1, 5):
            for chosen in itertools.product(words, repeat=length):
                text = " ".join(chosen)
                if all([word in words[:3] for word in chosen]) and len(set(chosen)) == length:
                    self.assertEqual(Sheet.read(text).fields(), list(chosen))
                else:
                    self.assertEqual(error_of(InvalidText, Sheet.read, text).line, 1, repr(text))

    def test_other_strings(self):
        for text in ["", " ", "  ", "a  b", " a b", "a b ", "A b", "a B", "a b a", "a\nb", "a\n", "\na", "a\tb", "a,b",
                     "a b c d e f g h i j k l m", "abcdefghi", "a 1", "Sheet(['a'])", "0"]:
            self.assertEqual(error_of(InvalidText, Sheet.read, text).line, 1, repr(text))
            self.assertEqual(error_of(InvalidText, Sheet.read, text=text).line, 1, repr(text))

    def test_other_values(self):
        for value in [*other_kinds(), 0, 1, ("a",), ("a", "b"), ["a", "b"], Sheet(["a"])]:
            self.assertEqual(error_of(InvalidText, Sheet.read, value).line, 0, repr(value))

    def test_on_an_object(self):
        self.assertEqual(Sheet(["x"]).read("a b"), Sheet(["a", "b"]))


class EquationTest(unittest.TestCase):
    def setUp(self):
        self.sheet = Sheet(["a", "b", "s"])

    def test_is_equation(self):
        for value in [(0, 0, 0), (1, 1, -1), (0, 3, -1), (LONG, -LONG, 0)]:
            self.assertIs(self.sheet.is_equation(value), True)
        self.assertIs(Sheet(["a"]).is_equation((5,)), True)
        self.assertIs(Sheet(TWELVE).is_equation(tuple(range(12))), True)

    def no_equations(self):
        return [
            *other_kinds(), 0, 1, "", "0", "1 a", (), (1,), (1, 1), (1, 1, 1, 1), [1, 1, -1], [1, 1, 1], (True, 1, 1),
            (1, False, 1), (1, 1, True), (1, 1, None), (1, 1, "1"), (1, (1, 2), 1), (1, [1], 1), ((1, 1, -1),),
            ((1, 2), (1, 2), (1, 2)), {"a": 1, "b": 1, "s": 1}, {1, 2, 3}, range(3),
        ]

    def test_values_that_are_no_equations(self):
        for value in self.no_equations():
            self.assertIs(self.sheet.is_equation(value), False, repr(value))
            self.assertEqual(error_of(InvalidEquation, self.sheet.equation_text, value).value, value)
        self.assertIs(Sheet(["a"]).is_equation((1, 2)), False)
        self.assertIs(Sheet(["a"]).is_equation((True,)), False)
        self.assertIs(Sheet(["a"]).is_equation(5), False)

    def test_by_coefficients(self):
        self.assertEqual(self.sheet.equation(), (0, 0, 0))
        self.assertEqual(self.sheet.equation(a=1, b=1, s=-1), (1, 1, -1))
        self.assertEqual(self.sheet.equation(s=-1, b=2, a=3), (3, 2, -1))
        self.assertEqual(self.sheet.equation(b=0, s=LONG), (0, 0, LONG))
        for given in itertools.permutations([("a", 4), ("b", 5), ("s", 6)]):
            for count in range(4):
                wanted = tuple([dict(given[:count]).get(field, 0) for field in "abs"])
                self.assertEqual(self.sheet.equation(**dict(given[:count])), wanted)

    def test_names_of_parameters_are_fields_too(self):
        names = ["fields", "field", "value", "equation", "text", "cls", "name", "other"]
        self.assertEqual(Sheet(names).equation(**{name: 5 for name in names}), (5,) * 8)

    def test_unknown_names_first(self):
        for given, name in [({"x": 1}, "x"), ({"a": 1, "x": 1, "y": 1}, "x"), ({"y": 1, "x": 1}, "y"),
                            ({"a": True, "x": 1}, "x"), ({"x": "no"}, "x"), ({"s": None, "b": 1, "A": None}, "A"),
                            ({"a": 1, "a b": 1}, "a b"), ({"": 1}, "")]:
            self.assertEqual(error_of(UnknownField, self.sheet.equation, **given).value, name)

    def test_then_values_that_are_no_integers(self):
        for value in [*other_kinds(), "", "1", (1, 2), (), (1,)]:
            self.assertEqual(error_of(InvalidNumber, self.sheet.equation, a=value).value, value)
            self.assertEqual(error_of(InvalidNumber, self.sheet.equation, s=1, a=value, b="x").value, value)
        self.assertIs(error_of(InvalidNumber, self.sheet.equation, s=True, a=False).value, True)
        self.assertIs(error_of(InvalidNumber, self.sheet.equation, a=False, s=True).value, False)


def own_text(fields, equation):
    words = [f"{coefficient} {field}" for field, coefficient in zip(fields, equation) if coefficient]
    return " ".join(words) or "0"


class EquationTextTest(unittest.TestCase):
    def setUp(self):
        self.sheet = Sheet(["a", "b", "s"])

    def test_texts(self):
        for equation, text in [((1, 1, -1), "1 a 1 b -1 s"), ((0, 0, 0), "0"), ((0, -3, 0), "-3 b"), ((1, 0, -2),
                               "1 a -2 s"), ((0, 0, 10), "10 s"), ((LONG, 0, -LONG), f"{LONG} a -{LONG} s")]:
            self.assertEqual(self.sheet.equation_text(equation), text)
            self.assertEqual(self.sheet.parse_equation(text), equation)
        sheet = Sheet(["net", "tax", "gross"])
        self.assertEqual(sheet.equation_text((1, 1, -1)), "1 net 1 tax -1 gross")

    def test_there_and_back(self):
        for equation in itertools.product([-12, -1, 0, 1, 7, 100], repeat=3):
            text = self.sheet.equation_text(equation)
            self.assertEqual(text, own_text("abs", equation))
            self.assertEqual(self.sheet.parse_equation(text), equation)
        wide = Sheet(TWELVE)
        for equation in [tuple(range(-6, 6)), (0,) * 11 + (5,), (LONG,) * 12]:
            self.assertEqual(wide.parse_equation(wide.equation_text(equation)), equation)

    def test_longer_than_python_writes_at_once(self):
        equation = (10 ** 5000, 0, -(10 ** 4999))
        text = self.sheet.equation_text(equation)
        self.assertEqual(text, "1" + "0" * 5000 + " a -1" + "0" * 4999 + " s")
        self.assertEqual(self.sheet.parse_equation(text), equation)

    def test_exactly_the_texts(self):
        words = ["0", "1", "-1", "20", "-0", "01", "+1", "1/2", "-", "", "a", "b", "s", "A", "\n"]
        wanted = {own_text("ab", equation): equation for equation in itertools.product([0, 1, -1, 20], repeat=2)}
        sheet = Sheet(["a", "b"])
        for length in range(1, 5):
            for chosen in itertools.product(words, repeat=length):
                text = " ".join(chosen)
                if text in wanted:
                    self.assertEqual(sheet.parse_equation(text), wanted[text])
                else:
                    self.assertEqual(error_of(InvalidText, sheet.parse_equation, text).line, 1, repr(text))

    def test_other_strings(self):
        for text in ["", " ", "0 ", " 0", "0 a", "1 a 0 b", "01 a", "-01 a", "-0", "-0 a", "+1 a", "00", "1", "a", "a 1",
                     "1 b 1 a", "1 a 1 a", "1 a 1 b 1 a", "1 a 2", "1 a b", "1  a", "1 a  1 b", " 1 a", "1 a ", "1 a\n",
                     "1 a\n1 b", "1a", "1 a 1b", "1/2 a", "2/1 a", "- a", "--1 a", "1 x", "1 a 1 x", "1 A", "1_0 a",
                     "1 a + 1 b", "1 net 1 tax -1 gross", "1 a, 1 b", "0 0", "1 a 0", "0 1 a", "1.0 a", "1e2 a",
                     "(1, 1, -1)"]:
            self.assertEqual(error_of(InvalidText, self.sheet.parse_equation, text).line, 1, repr(text))
            self.assertEqual(error_of(InvalidText, self.sheet.parse_equation, text=text).line, 1, repr(text))

    def test_the_text_of_another_sheet(self):
        one = Sheet(["a", "b"])
        other = Sheet(["b", "a"])
        text = one.equation_text((1, 2))
        self.assertEqual(error_of(InvalidText, other.parse_equation, text).line, 1)
        self.assertEqual(error_of(InvalidText, one.parse_equation, Sheet(["a", "c"]).equation_text((1, 2))).line, 1)
        self.assertEqual(other.parse_equation("2 b"), (2, 0))

    def test_other_values(self):
        for value in [*other_kinds(), 0, 1, (), (1, 1, -1), ("1 a",), ["0"]]:
            self.assertEqual(error_of(InvalidText, self.sheet.parse_equation, value).line, 0, repr(value))

    def test_results_are_tuples_of_integers(self):
        for equation in [self.sheet.parse_equation("0"), self.sheet.parse_equation("1 a"), self.sheet.equation(),
                         self.sheet.equation(a=1)]:
            self.assertIs(equation.__class__, tuple)
            self.assertEqual([part.__class__ for part in equation], [int, int, int])


class ArgumentTest(unittest.TestCase):
    def test_arguments_do_not_change(self):
        sheet = Sheet(["a", "b"])
        for value in [["a", ["b"]], {"a": [1]}, ([1], [2]), ["a", "a"], {1, 2}]:
            before = copy.deepcopy(value)
            for function in [Sheet, Sheet.read, sheet.place, sheet.equation_text, sheet.parse_equation]:
                with self.assertRaises((ValueError, LookupError)):
                    function(value)
            self.assertIs(sheet.has_field(value), False)
            self.assertIs(sheet.is_equation(value), False)
            self.assertEqual(value, before)

    def test_errors_keep_what_was_passed(self):
        sheet = Sheet(["a", "b"])
        value = [1, [2]]
        errors = [error_of(UnknownField, sheet.place, value), error_of(InvalidEquation, sheet.equation_text, value),
                  error_of(InvalidNumber, sheet.equation, a=value)]
        value[1].append(3)
        self.assertEqual([error.value for error in errors], [[1, [2]]] * 3)

    def test_a_repeated_call_returns_the_same(self):
        sheet = Sheet(["a", "b"])
        for _ in range(3):
            self.assertEqual([sheet.fields(), sheet.equation(b=2), sheet.parse_equation("1 a"), sheet.width, str(sheet)],
                             [["a", "b"], (0, 2), (1, 0), 2, "a b"])


if __name__ == "__main__":
    unittest.main()
