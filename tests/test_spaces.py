"""Spaces: point [7] of the document, and the first items on spaces of its interface."""

import copy
import itertools
import math
import random
import unittest

import linear
from lastheld.errors import InvalidEquation, InvalidEquations, OtherSheet
from lastheld.rationals import is_number
from lastheld.sheets import Sheet
from lastheld.spaces import Space
from values import EqualToAll, error_of, no_lists, other_kinds

ABS = ["a", "b", "s"]


def space_of(width, equations):
    return Space(Sheet(list(linear.LETTERS[:width])), equations)


def long_equations(width, count, digits, seed):
    source = random.Random(seed)
    top = 10 ** digits - 1
    return [tuple([source.randint(-top, top) for _ in range(width)]) for _ in range(count)]


def no_equations():
    """New values that are not equations of a sheet with three fields."""
    return [
        *other_kinds(), 0, 1, "", "0", "1 a", (), (1,), (1, 1), (1, 1, 1, 1), [1, 1, -1], (True, 1, 1), (1, False, 1),
        (1, 1, True), (1, 1, None), (1, 1, "1"), (1, (1, 2), 1), (1, [1], 1), ((1, 1, -1),), {"a": 1, "b": 1, "s": 1},
    ]


class Case(unittest.TestCase):
    def assert_normal_form(self, width, rows):
        """All conditions of point [7]."""
        pivots = []
        for row in rows:
            self.assertIs(row.__class__, tuple)
            self.assertEqual([coefficient.__class__ for coefficient in row], [int] * width)
            places = [place for place in range(width) if row[place] != 0]
            self.assertNotEqual(places, [])
            self.assertGreater(row[places[0]], 0)
            self.assertEqual(math.gcd(*row), 1)
            pivots.append(places[0])
        self.assertEqual(pivots, sorted(set(pivots)))
        for (at, pivot), (other, row) in itertools.product(enumerate(pivots), enumerate(rows)):
            self.assertTrue(at == other or row[pivot] == 0)

    def assert_same_follows(self, width, rows, equations):
        ranks = [linear.rank(width, rows), linear.rank(width, equations), linear.rank(width, [*rows, *equations])]
        self.assertEqual(ranks, [len(rows)] * 3)

    def assert_space_of(self, width, equations):
        space = space_of(width, equations)
        self.assert_normal_form(width, space.rows())
        self.assert_same_follows(width, space.rows(), equations)
        self.assertEqual(len(space), len(space.rows()))
        self.assertEqual(space.freedom, width - len(space.rows()))
        return space


class RowsTest(Case):
    def test_small_lists(self):
        for width, equations in linear.few_equations():
            self.assert_space_of(width, equations)

    def test_known_rows(self):
        for equations, rows in [
            ([], []), ([(0, 0, 0)], []), ([(1, 1, -1)], [(1, 1, -1)]), ([(-2, -2, 2)], [(1, 1, -1)]),
            ([(0, -6, 4)], [(0, 3, -2)]), ([(1, 1, -1), (0, 3, -1)], [(3, 0, -2), (0, 3, -1)]),
            ([(0, 3, -1), (1, 1, -1)], [(3, 0, -2), (0, 3, -1)]), ([(0, 0, 5), (0, 0, -7)], [(0, 0, 1)]),
            ([(1, 1, 1), (1, 1, 2)], [(1, 1, 0), (0, 0, 1)]), ([(0, 0, 2), (3, 0, 0)], [(1, 0, 0), (0, 0, 1)]),
            ([(1, 0, 0), (0, 1, 0), (0, 0, 1)], [(1, 0, 0), (0, 1, 0), (0, 0, 1)]),
            ([(2, 3, 0), (5, 0, 7), (0, 0, 0)], [(5, 0, 7), (0, 15, -14)]),
        ]:
            space = Space(Sheet(ABS), equations)
            self.assertEqual(space.rows(), rows)
            self.assertEqual([len(space), space.freedom], [len(rows), 3 - len(rows)])

    def test_the_same_for_all_lists_from_which_the_same_follows(self):
        source = random.Random(11)
        for width, equations in linear.few_equations():
            wanted = space_of(width, equations)
            zero = (0,) * width
            mixed = source.sample(equations, len(equations)) + [source.choice(equations or [zero]), zero]
            factors = [source.choice([-3, -1, 2, 5]) for _ in mixed]
            mixed = [tuple([factor * part for part in row]) for factor, row in zip(factors, mixed)]
            sums = [tuple([one + 2 * two for one, two in zip(*source.choices(mixed, k=2))]) for _ in range(2)]
            for given in [equations[::-1], equations * 2, mixed, sums + mixed, mixed + sums, wanted.rows(),
                          wanted.rows()[::-1], tuple(equations)]:
                found = space_of(width, given)
                self.assertEqual(found.rows(), wanted.rows())
                self.assertEqual(found, wanted)

    def test_each_order_of_equations(self):
        equations = [(2, 3, 0, -1), (5, 0, 7, 2), (0, 0, 0, 3), (7, 3, 7, 4)]
        found = [space_of(4, list(given)).rows() for given in itertools.permutations(equations)]
        self.assertEqual(found, [found[0]] * 24)
        self.assert_normal_form(4, found[0])
        self.assertEqual(len(found[0]), 3)

    def test_thirty_digits(self):
        for width, count in [(2, 1), (3, 2), (4, 4), (6, 4), (12, 3), (12, 8), (12, 11), (12, 12)]:
            self.assert_space_of(width, long_equations(width, count, 30, width + count))

    def test_thirty_digits_and_what_follows(self):
        first, second = long_equations(5, 2, 30, 3)
        double = tuple([2 * one - 3 * two for one, two in zip(first, second)])
        self.assertEqual(len(space_of(5, [first, second, double])), 2)
        near = (double[0] + 1, *double[1:])
        self.assertEqual(len(space_of(5, [first, second, near])), 3)

    def test_twelve_fields(self):
        source = random.Random(12)
        for count in range(15):
            self.assert_space_of(12, [linear.random_row(source, 12) for _ in range(count)])

    def test_a_hundred_equations(self):
        self.assertEqual(len(self.assert_space_of(12, long_equations(12, 100, 2, 1))), 12)


class SpaceTest(Case):
    def test_the_sheet(self):
        sheet = Sheet(ABS)
        self.assertEqual(Space(sheet, [(1, 1, -1)]).sheet(), sheet)
        self.assertIsInstance(Space(sheet).sheet(), Sheet)

    def test_without_equations(self):
        for space in [Space(Sheet(ABS)), Space(Sheet(ABS), []), Space(Sheet(ABS), ())]:
            self.assertEqual([space.rows(), len(space), space.freedom], [[], 0, 3])
            self.assertEqual(repr(space), "Space(['a', 'b', 's'], [])")

    def test_shown(self):
        space = Space(Sheet(ABS), [(1, 1, -1), (0, 3, -1)])
        self.assertEqual(repr(space), "Space(['a', 'b', 's'], [(3, 0, -2), (0, 3, -1)])")
        self.assertEqual(repr(Space(Sheet(["net"]), [(7,)])), "Space(['net'], [(1,)])")
        for width, equations in linear.few_equations():
            space = space_of(width, equations)
            self.assertEqual(repr(space), f"Space({space.sheet().fields()!r}, {space.rows()!r})")

    def test_shown_longer_than_python_does_at_once(self):
        long = "1" + "0" * 5000
        space = Space(Sheet(["a", "b"]), [(1, -(10 ** 5000))])
        self.assertEqual(repr(space), "Space(['a', 'b'], [(1, -" + long + ")])")

    def test_equality(self):
        made = [lambda: Space(Sheet(ABS)), lambda: Space(Sheet(ABS), [(1, 1, -1)]), lambda: Space(Sheet(["a", "b", "t"])),
                lambda: Space(Sheet(["a", "b", "t"]), [(1, 1, -1)]), lambda: Space(Sheet(["b", "a", "s"]), [(1, 1, -1)]),
                lambda: Space(Sheet(ABS), [(1, 1, 1)]), lambda: Space(Sheet(ABS), [(1, 1, -1), (0, 0, 1)]),
                lambda: Space(Sheet(["a"])), lambda: Space(Sheet(["a"]), [(1,)])]
        for (one, first), (two, second) in itertools.product(enumerate(made), repeat=2):
            self.assertIs(first() == second(), one == two)
            self.assertIs(first() != second(), one != two)
        self.assertEqual(Space(Sheet(ABS), [(1, 1, -1)]), Space(Sheet(tuple(ABS)), ((-3, -3, 3), (0, 0, 0))))

    def test_not_equal_to_other_kinds(self):
        space = Space(Sheet(ABS), [(1, 1, -1)])
        for value in [*other_kinds(), 1, "", repr(space), space.rows(), tuple(space.rows()), space.sheet(),
                      (space.sheet(), space.rows())]:
            self.assertIs(space == value, False, repr(value))
            self.assertIs(value == space, False, repr(value))
            self.assertIs(space != value, True, repr(value))
            self.assertIs(value != space, True, repr(value))
        self.assertIs(space == EqualToAll(), False)
        self.assertIs(space != EqualToAll(), True)

    def test_wrong_equations(self):
        sheet = Sheet(ABS)
        for value in [*no_lists(), {(1, 1, -1): 1}, {(1, 1, -1)}, "1 a 1 b -1 s", 5]:
            self.assertEqual(error_of(InvalidEquations, Space, sheet, value).index, -1, repr(value))
        self.assertEqual(error_of(InvalidEquations, Space, sheet, (row for row in [(1, 1, -1)])).index, -1)
        good = (1, 1, -1)
        for value in no_equations():
            for before, behind in [([], []), ([good], []), ([good, good], [good, None]), ([], [value, good])]:
                for given in [[*before, value, *behind], (*before, value, *behind)]:
                    self.assertEqual(error_of(InvalidEquations, Space, sheet, given).index, len(before), repr(given))
                    self.assertEqual(error_of(InvalidEquations, Space, sheet, equations=given).index, len(before))

    def test_one_equation_is_not_a_list_of_equations(self):
        self.assertEqual(error_of(InvalidEquations, Space, Sheet(ABS), (1, 1, -1)).index, 0)

    def test_by_name(self):
        space = Space(equations=[(1, 1, -1)], sheet=Sheet(ABS))
        self.assertEqual(space.rows(), [(1, 1, -1)])
        self.assertIs(space.follows(equation=(2, 2, -2)), True)
        self.assertEqual(space.combination(equation=(2, 2, -2)), [2])

    def test_lists_may_be_changed_afterwards(self):
        equations = [(1, 1, -1)]
        space = Space(Sheet(ABS), equations)
        equations.append((1, 0, 0))
        space.rows().append((0, 0, 1))
        space.rows().clear()
        space.sheet().fields().clear()
        space.combination((1, 1, -1)).append(5)
        self.assertEqual(space.rows(), [(1, 1, -1)])
        self.assertEqual(space, Space(Sheet(ABS), [(1, 1, -1)]))
        self.assertEqual(space.combination((1, 1, -1)), [1])
        given = [(2, 2, -2), (0, 0, 1)]
        before = copy.deepcopy(given)
        Space(Sheet(ABS), given)
        self.assertEqual(given, before)


class JoinedTest(Case):
    def test_all_equations(self):
        cases = [case for case in linear.few_equations() if case[0] == 3]
        for (_, one), (_, two) in zip(cases, cases[1:]):
            wanted = space_of(3, [*one, *two])
            first, second = space_of(3, one), space_of(3, two)
            for found in [Space.joined(first, second), Space.joined(second, first), first.joined(first, second),
                          Space.joined(first, first, second), wanted.joined(second, first, first)]:
                self.assertIsInstance(found, Space)
                self.assertEqual(found, wanted)
            self.assertEqual([first, second], [space_of(3, one), space_of(3, two)])

    def test_one_space(self):
        space = Space(Sheet(ABS), [(1, 1, -1)])
        self.assertEqual(Space.joined(space), space)
        self.assertEqual(Space.joined(first=space), space)
        self.assertEqual(Space(Sheet(["x"])).joined(space), space)

    def test_of_an_object_without_its_own_equations(self):
        space = Space(Sheet(ABS), [(1, 0, 0)])
        other = Space(Sheet(ABS), [(0, 1, 0)])
        self.assertEqual(space.joined(other), other)

    def test_several_spaces(self):
        spaces = [Space(Sheet(ABS), [row]) for row in [(1, 1, -1), (0, 3, -1), (2, 2, -2), (0, 0, 0)]]
        self.assertEqual(Space.joined(*spaces), Space(Sheet(ABS), [(1, 1, -1), (0, 3, -1)]))
        many = [space_of(12, [row]) for row in long_equations(12, 15, 3, 2)]
        self.assertEqual(Space.joined(*many), space_of(12, long_equations(12, 15, 3, 2)))

    def test_other_sheets(self):
        one = Space(Sheet(["a", "b"]), [(1, 1)])
        same = Space(Sheet(("a", "b")))
        for other in [Space(Sheet(["b", "a"])), Space(Sheet(["a", "c"])), Space(Sheet(["a"])), Space(Sheet(ABS))]:
            for given, index in [([one, other], 1), ([other, one], 1), ([one, same, other], 2), ([one, other, other], 1),
                                 ([other, other, one, other], 2), ([one, one, same, other, one], 3)]:
                self.assertEqual(error_of(OtherSheet, Space.joined, *given).index, index)
                self.assertEqual(error_of(OtherSheet, one.joined, *given).index, index)


class WithEquationsTest(Case):
    def test_none_one_and_several(self):
        space = Space(Sheet(ABS), [(1, 1, -1)])
        self.assertEqual(space.with_equations(), space)
        self.assertEqual(space.with_equations((2, 2, -2)), space)
        self.assertEqual(space.with_equations((0, 3, -1)).rows(), [(3, 0, -2), (0, 3, -1)])
        self.assertEqual(space.with_equations((0, 3, -1), (1, 0, 0)).freedom, 0)
        self.assertEqual(space, Space(Sheet(ABS), [(1, 1, -1)]))

    def test_one_after_another(self):
        for width, equations in linear.few_equations():
            space = space_of(width, [])
            for equation in equations:
                space = space.with_equations(equation)
            self.assertEqual(space, space_of(width, equations))
            self.assertEqual(space_of(width, equations[:1]).with_equations(*equations[1:]), space)

    def test_wrong_equations(self):
        space = Space(Sheet(ABS), [(1, 1, -1)])
        good = (0, 0, 1)
        for value in no_equations():
            for given in [[value], [good, value], [value, good, 7], [good, good, value, None]]:
                self.assertEqual(error_of(InvalidEquation, space.with_equations, *given).value, value)
            for function in [space.follows, space.combination]:
                self.assertEqual(error_of(InvalidEquation, function, value).value, value)
                self.assertEqual(error_of(InvalidEquation, function, equation=value).value, value)
        self.assertEqual(error_of(InvalidEquation, space.with_equations, [good]).value, [good])
        self.assertEqual(space, Space(Sheet(ABS), [(1, 1, -1)]))


class FollowingTest(Case):
    def assert_follows(self, width, equations, equation):
        space = space_of(width, equations)
        wanted = linear.rank(width, [*equations, equation]) == linear.rank(width, equations)
        numbers = space.combination(equation)
        self.assertIs(space.follows(equation), wanted)
        self.assertEqual(numbers is not None, wanted)
        if wanted:
            self.assertIs(numbers.__class__, list)
            self.assertTrue(all([is_number(number) for number in numbers]))
            self.assertEqual(linear.added_up(width, space.rows(), numbers), list(equation))
        return wanted

    def test_small_equations(self):
        for width, equations in linear.few_equations():
            if width <= 3:
                found = [self.assert_follows(width, equations, equation)
                         for equation in itertools.product([-3, -1, 0, 1, 2], repeat=width)]
                self.assertIn(True, found)

    def test_sums_of_equations(self):
        source = random.Random(7)
        for width, equations in linear.few_equations():
            for _ in range(4):
                factors = [source.randint(-4, 4) for _ in equations]
                equation = tuple([sum([factor * row[place] for factor, row in zip(factors, equations)])
                                  for place in range(width)])
                self.assertTrue(self.assert_follows(width, equations, equation))
                place = source.randrange(width)
                self.assert_follows(width, equations, (*equation[:place], equation[place] + 1, *equation[place + 1:]))

    def test_fractions(self):
        space = Space(Sheet(ABS), [(2, 0, -1), (0, 3, 1)])
        self.assertEqual(space.rows(), [(2, 0, -1), (0, 3, 1)])
        self.assertEqual(space.combination((2, 3, 0)), [1, 1])
        self.assertEqual(space.combination((1, -1, -1)), None)
        self.assertEqual(Space(Sheet(["a", "b"]), [(2, 0), (0, 3)]).combination((5, -7)), [5, -7])
        self.assertEqual(Space(Sheet(ABS), [(3, 0, -2), (0, 3, -1)]).combination((1, 1, -1)), [(1, 3), (1, 3)])

    def test_long_equations(self):
        first, second, third = long_equations(6, 3, 30, 9)
        equation = tuple([10 ** 20 * one - 7 * two for one, two in zip(first, second)])
        self.assertTrue(self.assert_follows(6, [first, second, third], equation))
        self.assertFalse(self.assert_follows(6, [first, second, third], (*equation[:5], equation[5] + 1)))

    def test_no_rows(self):
        space = Space(Sheet(["a", "b"]))
        self.assertEqual(space.combination((0, 0)), [])
        self.assertIs(space.follows((0, 0)), True)
        self.assertIsNone(space.combination((0, 1)))
        self.assertIs(space.follows((0, 1)), False)


if __name__ == "__main__":
    unittest.main()
