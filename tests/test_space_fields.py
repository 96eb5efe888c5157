"""The fields of spaces: points [8] and [9] of the document, and the later items on spaces of its interface."""

import itertools
import random
import unittest
from fractions import Fraction

import linear
from lastheld.errors import InvalidFields, NotDetermined, NotFree, UnknownField
from lastheld.rationals import is_number
from lastheld.sheets import Sheet
from lastheld.spaces import Space
from values import EqualToAll, error_of, no_lists, other_kinds

ABS = ["a", "b", "s"]


def small_spaces():
    """Spaces, each with solutions of which every solution is a sum of multiples."""
    rows = []
    for width, equations in linear.few_equations():
        sheet = Sheet(list(linear.LETTERS[:width]))
        rows.append((Space(sheet, equations), linear.solutions(width, equations)))
    return rows


def lists_of_fields(space, source):
    """Lists of fields of a space: every subset, in some sequence, also with fields that are listed twice."""
    fields = space.sheet().fields()
    lists = []
    for length in range(len(fields) + 1):
        for chosen in itertools.combinations(fields, length):
            given = source.sample(chosen, length)
            lists.append(given)
            lists.append(tuple(given[::-1]))
            if given:
                lists.append([*given, source.choice(given)])
    return lists


def no_fields():
    """New values that are not fields of the sheet a, b, s."""
    return [*other_kinds(), 0, 1, "", "c", "A", "as", "a b", "a ", ("a",), ("a", "b"), EqualToAll()]


class FieldsTest(unittest.TestCase):
    def test_all_subsets(self):
        source = random.Random(8)
        for space, found in small_spaces():
            sheet = space.sheet()
            for given in lists_of_fields(space, source):
                places = [sheet.place(field) for field in given]
                self.assertIs(space.are_free(given), linear.are_free(found, places), (space, given))
                wanted = [field for field in sheet.fields() if linear.determine(found, places, sheet.place(field))]
                self.assertEqual(space.determined(given), wanted, (space, given))

    def test_zero_fields(self):
        for space, found in small_spaces():
            fields = space.sheet().fields()
            wanted = [field for at, field in enumerate(fields) if all([values[at] == 0 for values in found])]
            self.assertEqual(space.zero_fields(), wanted)
            self.assertEqual(space.determined([]), wanted)
            self.assertEqual(space.determined(()), wanted)

    def test_known_spaces(self):
        space = Space(Sheet(ABS), [(1, 1, -1)])
        self.assertEqual([space.are_free(list(given)) for given in ["", "a", "ab", "as", "sa", "bs", "abs", "aa"]],
                         [True, True, True, True, True, True, False, False])
        self.assertEqual([space.determined(list(given)) for given in ["", "a", "aa", "sb", "bsb"]],
                         [[], ["a"], ["a"], ABS, ABS])
        self.assertEqual(space.zero_fields(), [])
        space = Space(Sheet(ABS), [(1, 1, -1), (1, 0, -1)])
        self.assertEqual(space.zero_fields(), ["b"])
        self.assertIs(space.are_free(["b"]), False)
        self.assertEqual([space.determined(["s"]), space.determined(["b"])], [ABS, ["b"]])

    def test_a_field_twice_is_not_free(self):
        space = Space(Sheet(ABS))
        for given in [["a", "a"], ["a", "b", "a"], ("s", "s"), ["a", "b", "s", "s"]]:
            self.assertIs(space.are_free(given), False)
        self.assertEqual(space.determined(["s", "a", "s"]), ["a", "s"])

    def test_no_fields(self):
        for space, _ in small_spaces():
            self.assertIs(space.are_free([]), True)
            self.assertIs(space.are_free(()), True)

    def test_twelve_fields(self):
        source = random.Random(13)
        for count in [0, 3, 7, 11, 12]:
            equations = [tuple([source.randint(-10 ** 30, 10 ** 30) for _ in range(12)]) for _ in range(count)]
            space = Space(Sheet(list(linear.LETTERS)), equations)
            for length in range(13):
                given = source.sample(linear.LETTERS, length)
                self.assertIs(space.are_free(given), length <= 12 - count)
                self.assertEqual(space.determined(given), list(linear.LETTERS) if length >= 12 - count else
                                 sorted(given))

    def test_returned_lists_belong_to_the_caller(self):
        space = Space(Sheet(ABS), [(0, 1, 0)])
        for _ in range(2):
            found = [space.zero_fields(), space.determined(["a"]), space.components(), space.identity("b", [])]
            self.assertEqual(found, [["b"], ["a", "b"], [("a",), ("b",), ("s",)], [1]])
            for returned in found:
                self.assertIs(returned.__class__, list)
                returned.clear()
            self.assertEqual(space.expression("s", ["s"]), {"s": 1})
            space.expression("s", ["s"]).clear()

    def test_arguments_do_not_change(self):
        space = Space(Sheet(ABS), [(1, 1, -1)])
        given = ["s", "a"]
        space.are_free(given), space.determined(given), space.expression("b", given), space.identity("b", given)
        self.assertEqual(given, ["s", "a"])
        self.assertEqual(space, Space(Sheet(ABS), [(1, 1, -1)]))

    def test_by_name(self):
        space = Space(Sheet(ABS), [(1, 1, -1)])
        self.assertIs(space.are_free(fields=["a"]), True)
        self.assertEqual(space.determined(fields=["a"]), ["a"])
        self.assertEqual(space.expression(fields=["s", "a"], field="b"), {"s": 1, "a": -1})
        self.assertEqual(space.identity(fields=["s", "a"], field="b"), [1])


class ExpressionTest(unittest.TestCase):
    def assert_expression(self, space, found, field, given):
        sheet = space.sheet()
        expression = space.expression(field, given)
        self.assertIs(expression.__class__, dict)
        self.assertEqual(list(expression), [name for name in given if name in expression])
        for coefficient in expression.values():
            self.assertTrue(is_number(coefficient))
            self.assertNotEqual(coefficient, 0)
        for values in found:
            parts = [linear.fraction_of(expression[name]) * values[sheet.place(name)] for name in expression]
            self.assertEqual(sum(parts, Fraction(0)), values[sheet.place(field)])

    def assert_identity(self, space, field, given):
        sheet = space.sheet()
        numbers = space.identity(field, given)
        self.assertIs(numbers.__class__, list)
        self.assertTrue(all([is_number(number) for number in numbers]))
        wanted = [Fraction(0) for _ in sheet.fields()]
        for name, coefficient in space.expression(field, given).items():
            wanted[sheet.place(name)] -= linear.fraction_of(coefficient)
        wanted[sheet.place(field)] += 1
        self.assertEqual(linear.added_up(sheet.width, space.rows(), numbers), wanted)
        if field in given:
            self.assertEqual(numbers, [0 for _ in space.rows()])

    def test_all_subsets(self):
        source = random.Random(9)
        for space, found in small_spaces():
            sheet = space.sheet()
            for given, field in itertools.product(lists_of_fields(space, source), sheet.fields()):
                places = [sheet.place(name) for name in given]
                if not linear.are_free(found, places):
                    for method in [space.expression, space.identity]:
                        self.assertEqual(error_of(NotFree, method, field, given).given, list(given))
                elif not linear.determine(found, places, sheet.place(field)):
                    for method in [space.expression, space.identity]:
                        self.assertEqual(error_of(NotDetermined, method, field, given).field, field)
                else:
                    self.assert_expression(space, found, field, given)
                    self.assert_identity(space, field, given)

    def test_known_expressions(self):
        space = Space(Sheet(ABS), [(2, 1, -1)])
        for field, given, expression, identity in [
            ("a", ["b", "s"], {"b": (-1, 2), "s": (1, 2)}, [(1, 2)]),
            ("a", ["s", "b"], {"s": (1, 2), "b": (-1, 2)}, [(1, 2)]),
            ("s", ["a", "b"], {"a": 2, "b": 1}, [-1]), ("b", ["b", "a"], {"b": 1}, [0]), ("s", ("s",), {"s": 1}, [0]),
        ]:
            self.assertEqual(list(space.expression(field, given).items()), list(expression.items()))
            self.assertEqual(space.identity(field, given), identity)

    def test_coefficients_that_are_0_are_left_out(self):
        space = Space(Sheet(["a", "b", "c", "d"]), [(1, -3, 0, 0)])
        self.assertEqual(space.expression("a", ["d", "b", "c"]), {"b": 3})
        self.assertEqual(space.expression("b", ["c", "a"]), {"a": (1, 3)})
        space = Space(Sheet(["a", "b"]), [(1, 0)])
        self.assertEqual(space.expression("a", ["b"]), {})
        self.assertEqual(space.identity("a", ["b"]), [1])

    def test_long_coefficients(self):
        source = random.Random(14)
        equations = [tuple([source.randint(-10 ** 30, 10 ** 30) for _ in range(7)]) for _ in range(4)]
        space = Space(Sheet(list("abcdefg")), equations)
        found = linear.solutions(7, equations)
        for field in "abcdefg":
            self.assert_expression(space, found, field, ["e", "a", "c"])
            self.assert_identity(space, field, ["e", "a", "c"])

    def test_given_as_a_list(self):
        space = Space(Sheet(ABS), [(1, 1, -1)])
        given = ["a", "s", "b"]
        error = error_of(NotFree, space.expression, "a", given)
        given.clear()
        self.assertEqual(error.given, ["a", "s", "b"])
        error.given.append("x")
        self.assertEqual(error_of(NotFree, space.identity, "a", ["a", "a"]).given, ["a", "a"])


class WrongArgumentTest(unittest.TestCase):
    def setUp(self):
        self.space = Space(Sheet(ABS), [(1, 1, -1)])

    def test_lists_of_fields(self):
        for method in [self.space.are_free, self.space.determined]:
            for value in [*no_lists(), {"a": 1}, {"a"}, "a", "s"]:
                self.assertEqual(error_of(InvalidFields, method, value).index, -1, repr(value))
            for value in no_fields():
                for before, behind in [([], []), (["a"], []), (["a", "a"], [value, "b"]), ([], ["x"])]:
                    self.assertEqual(error_of(InvalidFields, method, [*before, value, *behind]).index, len(before))
                    self.assertEqual(error_of(InvalidFields, method, (*before, value, *behind)).index, len(before))

    def test_the_sequence_of_errors(self):
        for method in [self.space.expression, self.space.identity]:
            for value in no_fields()[:-1]:
                for fields in [["a"], None, ["x"], ["a", "a"], [], ABS]:
                    self.assertEqual(error_of(UnknownField, method, value, fields).value, value)
            thing = EqualToAll()
            self.assertIs(error_of(UnknownField, method, thing, ["a"]).value, thing)
            for field in ABS:
                for value in no_lists():
                    self.assertEqual(error_of(InvalidFields, method, field, value).index, -1)
                for value in no_fields():
                    self.assertEqual(error_of(InvalidFields, method, field, ["a", "a", value, 5]).index, 2)
                    self.assertEqual(error_of(InvalidFields, method, field, (value, field)).index, 0)
                self.assertEqual(error_of(NotFree, method, field, ["a", "b", "s"]).given, ["a", "b", "s"])
            # b and b are not free together, and do not determine s.
            self.assertEqual(error_of(NotFree, method, "s", ["b", "b"]).given, ["b", "b"])
            self.assertEqual(error_of(NotDetermined, method, "s", ["b"]).field, "s")
            self.assertEqual(error_of(NotDetermined, method, "a", []).field, "a")


def divisions(fields):
    """All divisions of a list of fields into parts."""
    if not fields:
        return [[]]
    found = []
    for parts in divisions(fields[1:]):
        found.append([[fields[0]], *parts])
        for at, part in enumerate(parts):
            found.append([[fields[0], *part], *parts[:at], *parts[at + 1:]])
    return found


class ComponentsTest(unittest.TestCase):
    def test_the_finest_division(self):
        for space, _ in small_spaces():
            fields = space.sheet().fields()
            linked = [{field for field, part in zip(fields, row) if part} for row in space.rows()]
            fitting = [parts for parts in divisions(fields)
                       if all([any([row <= set(part) for part in parts]) for row in linked])]
            most = max([len(parts) for parts in fitting])
            finest = [parts for parts in fitting if len(parts) == most]
            self.assertEqual(len(finest), 1)
            wanted = sorted([tuple(sorted(part)) for part in finest[0]])
            self.assertEqual(space.components(), wanted)

    def test_known_components(self):
        sheet = Sheet(["a", "x", "b", "y", "z"])
        for equations, wanted in [
            ([], [("a",), ("x",), ("b",), ("y",), ("z",)]),
            ([(1, 0, -2, 0, 0), (0, 3, 0, 1, 0)], [("a", "b"), ("x", "y"), ("z",)]),
            ([(1, 0, 0, 0, 1), (0, 1, 1, 0, 0), (0, 0, 1, 1, 0)], [("a", "z"), ("x", "b", "y")]),
            ([(0, 0, 0, 1, 1), (1, 1, 0, 0, 0), (0, 0, 1, 0, 1), (0, 1, 0, 0, 2)], [("a", "x", "b", "y", "z")]),
            ([(1, 1, 0, 0, 0), (1, -1, 0, 0, 0)], [("a",), ("x",), ("b",), ("y",), ("z",)]),
            ([(1, 1, 1, 1, 1)], [("a", "x", "b", "y", "z")]), ([(0, 0, 0, 0, 4)], [("a",), ("x",), ("b",), ("y",), ("z",)]),
        ]:
            self.assertEqual(Space(sheet, equations).components(), wanted)

    def test_the_sequence_of_the_sheet(self):
        self.assertEqual(Space(Sheet(["z", "m", "a"]), [(1, 0, 1)]).components(), [("z", "a"), ("m",)])
        self.assertEqual(Space(Sheet(["z", "m", "a"]), [(0, 1, 1)]).components(), [("z",), ("m", "a")])

    def test_tuples(self):
        for part in Space(Sheet(ABS), [(1, 0, 1)]).components():
            self.assertIs(part.__class__, tuple)


if __name__ == "__main__":
    unittest.main()
