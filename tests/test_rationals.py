"""Numbers: point [5] of the document, and the item "rationals" of its interface."""

import copy
import inspect
import itertools
import random
import unittest
from fractions import Fraction
from math import gcd

from lastheld import rationals
from lastheld.errors import InvalidNumber, InvalidText, NoQuotient
from lastheld.rationals import (
    divided, is_less, is_number, minus, number, number_text, parse_number, plus, times,
)
from values import error_of, other_kinds

SMALL = [0, 1, -1, 2, -2, 3, 7, (1, 2), (-1, 2), (1, 3), (-7, 3), (5, 6), (17, 6), (3, 4), (-9, 10)]
BIG = 10 ** 39 + 7
WRONG_TUPLES = [
    (), (1,), (1, 2, 3), (1, 2, 1), (2, 4), (-2, 4), (0, 2), (0, 5), (6, 3), (10, 15), (-6, 9), (3, 1), (0, 1), (1, 1),
    (-1, 1), (1, 0), (0, 0), (1, -2), (-1, -2), (3, -1), (2, -4), (True, 2), (False, 2), (1, True), (3, False),
    (True, True), ("1", 2), (1, "2"), (1, None), ((1, 2), 2), (1, (1, 2)), ([1], 2), (3 * BIG, 3 * (BIG + 1)),
    (BIG, 1), (BIG, -2), (2 * BIG, 2),
]


def no_numbers():
    """New values that are not numbers."""
    return [*other_kinds(), "", "0", "1", "1/2", "a", *WRONG_TUPLES]


def of_fraction(fraction):
    """The number with the value of a Fraction, made without the program."""
    if fraction.denominator == 1:
        return fraction.numerator
    return (fraction.numerator, fraction.denominator)


def fraction_of(value):
    return Fraction(*value) if isinstance(value, tuple) else Fraction(value)


def random_numbers(count, digits, seed):
    source = random.Random(seed)
    top = 10 ** digits
    return [of_fraction(Fraction(source.randint(-top, top), source.randint(1, top))) for _ in range(count)]


def is_text(text):
    """Whether a string is the text of a number, asked of Python's own fractions."""
    above, slash, below = text.partition("/")
    if not above.removeprefix("-").isdigit() or (slash and not below.isdigit()):
        return False
    if slash and int(below) == 0:
        return False
    return str(Fraction(text)) == text


class Case(unittest.TestCase):
    def assert_number(self, found, wanted):
        """Equal, and of the same kinds of values: True is not 1, and a list is not a tuple."""
        self.assertEqual(found, wanted)
        self.assertIs(found.__class__, wanted.__class__)
        if isinstance(found, tuple):
            self.assertEqual([part.__class__ for part in found], [int, int])


class IsNumberTest(Case):
    def test_integers(self):
        for value in [0, 1, -1, 7, -30, 10 ** 39, -(10 ** 39), BIG, 10 ** 59]:
            self.assertIs(is_number(value), True, value)

    def test_all_small_tuples(self):
        for above, below in itertools.product(range(-13, 14), range(-13, 14)):
            wanted = below >= 2 and gcd(above, below) == 1
            self.assertIs(is_number((above, below)), wanted, (above, below))

    def test_forty_digits(self):
        self.assertIs(is_number((BIG, BIG + 1)), True)
        self.assertIs(is_number((-BIG, BIG + 1)), True)
        self.assertIs(is_number((1, BIG)), True)
        self.assertIs(is_number((3 * BIG, 3 * BIG + 3)), False)
        self.assertIs(is_number((7 * BIG, BIG)), False)
        self.assertIs(is_number((BIG, -BIG - 1)), False)

    def test_other_values(self):
        for value in no_numbers():
            self.assertIs(is_number(value), False, repr(value))
        for value in [[1, 2], [1], [(1, 2)]]:
            self.assertIs(is_number(value), False, repr(value))

    def test_by_name(self):
        self.assertIs(is_number(value=(1, 2)), True)
        self.assertIs(is_number(value=(2, 2)), False)


class MakingTest(Case):
    def test_all_small_numerators_and_denominators(self):
        for above, below in itertools.product(range(-13, 14), range(-13, 14)):
            if below != 0:
                self.assert_number(number(above, below), of_fraction(Fraction(above, below)))

    def test_one_argument(self):
        for value in [0, 5, -5, BIG, -BIG]:
            self.assert_number(number(value), value)

    def test_long_integers(self):
        for above, below, factor in [(BIG, BIG + 1, 10 ** 19), (-BIG, 3, 10 ** 20), (BIG, 1, -(10 ** 20)), (0, 1, BIG)]:
            self.assert_number(number(above * factor, below * factor), of_fraction(Fraction(above, below)))

    def test_by_name(self):
        self.assert_number(number(numerator=6, denominator=-4), (-3, 2))
        self.assert_number(number(denominator=-4, numerator=6), (-3, 2))
        self.assert_number(number(6, denominator=4), (3, 2))
        self.assert_number(number(numerator=6), 6)

    def test_wrong_numerators(self):
        for value in [*no_numbers(), (1, 2)]:
            for rest in [(), (2,), (0,), (True,), ("x",), (None,)]:
                self.assertEqual(error_of(InvalidNumber, number, value, *rest).value, value)
        self.assertIs(error_of(InvalidNumber, number, True, False).value, True)
        self.assertIs(error_of(InvalidNumber, number, False, 0).value, False)

    def test_wrong_denominators(self):
        for value in [*no_numbers(), (1, 2), 0]:
            for above in [0, 1, -6]:
                self.assertEqual(error_of(InvalidNumber, number, above, value).value, value)
                self.assertEqual(error_of(InvalidNumber, number, denominator=value, numerator=above).value, value)
        self.assertIs(error_of(InvalidNumber, number, 1, True).value, True)
        self.assertIs(error_of(InvalidNumber, number, 1, False).value, False)
        self.assertIs(error_of(InvalidNumber, number, 1, 0).value, 0)


class SumAndProductTest(Case):
    def test_of_no_numbers(self):
        self.assert_number(plus(), 0)
        self.assert_number(times(), 1)

    def test_of_one_number(self):
        for value in SMALL:
            self.assert_number(plus(value), value)
            self.assert_number(times(value), value)

    def test_of_two_numbers(self):
        for first, second in itertools.product(SMALL, SMALL):
            left, right = fraction_of(first), fraction_of(second)
            self.assert_number(plus(first, second), of_fraction(left + right))
            self.assert_number(times(first, second), of_fraction(left * right))

    def test_up_to_nine_numbers_in_any_sequence(self):
        source = random.Random(3)
        for count in range(10):
            for digits in (1, 2, 40):
                values = random_numbers(count, digits, 100 * count + digits)
                total, product = Fraction(0), Fraction(1)
                for value in values:
                    total, product = total + fraction_of(value), product * fraction_of(value)
                for _ in range(4):
                    self.assert_number(plus(*values), of_fraction(total))
                    self.assert_number(times(*values), of_fraction(product))
                    source.shuffle(values)

    def test_cancelling(self):
        self.assert_number(plus((1, 2), (1, 2)), 1)
        self.assert_number(plus((1, 2), (-1, 2)), 0)
        self.assert_number(plus((1, 6), (1, 3), (1, 2), -1), 0)
        self.assert_number(plus((1, 6), (1, 6)), (1, 3))
        self.assert_number(times((2, 3), (3, 2)), 1)
        self.assert_number(times((2, 3), 0, (5, 7)), 0)
        self.assert_number(times((-2, 3), (-3, 4)), (1, 2))

    def test_wrong_arguments(self):
        for function in (plus, times):
            for value in no_numbers():
                for values in [(value,), (value, 1), (1, value), (0, (1, 2), value, 5), (0, value, "x", [])]:
                    self.assertEqual(error_of(InvalidNumber, function, *values).value, value)
            self.assertIs(error_of(InvalidNumber, function, 1, True, False).value, True)
            self.assertIs(error_of(InvalidNumber, function, 1, False, True).value, False)


class DifferenceAndQuotientTest(Case):
    def pairs(self):
        yield from itertools.product(SMALL, SMALL)
        for digits in (1, 3, 40, 60):
            yield from zip(random_numbers(20, digits, digits), random_numbers(20, digits, digits + 1))

    def test_minus(self):
        for first, second in self.pairs():
            found = minus(first, second)
            self.assert_number(found, of_fraction(fraction_of(first) - fraction_of(second)))
            self.assert_number(plus(found, second), first)
            self.assert_number(minus(first=first, second=second), found)
            self.assert_number(minus(second=second, first=first), found)

    def test_divided(self):
        for first, second in self.pairs():
            if second != 0:
                found = divided(first, second)
                self.assert_number(found, of_fraction(fraction_of(first) / fraction_of(second)))
                self.assert_number(times(found, second), first)
                self.assert_number(divided(first=first, second=second), found)
                self.assert_number(divided(second=second, first=first), found)

    def test_is_less(self):
        for first, second in self.pairs():
            wanted = fraction_of(first) < fraction_of(second)
            self.assertIs(is_less(first, second), wanted, (first, second))
            self.assertIs(is_less(first=first, second=second), wanted)
            self.assertIs(is_less(second=second, first=first), wanted)
            self.assertIs(is_less(first, first), False)

    def test_is_less_of_numbers_side_by_side(self):
        self.assertIs(is_less((BIG, BIG + 1), (BIG + 1, BIG + 2)), True)
        self.assertIs(is_less((BIG + 1, BIG + 2), (BIG, BIG + 1)), False)
        self.assertIs(is_less((-1, 2), (-1, 3)), True)
        self.assertIs(is_less((-1, 3), (-1, 2)), False)

    def test_the_first_wrong_argument(self):
        for function in (minus, divided, is_less):
            for value in no_numbers():
                self.assertEqual(error_of(InvalidNumber, function, value, 0).value, value)
                self.assertEqual(error_of(InvalidNumber, function, value, "x").value, value)
                self.assertEqual(error_of(InvalidNumber, function, 0, value).value, value)
                self.assertEqual(error_of(InvalidNumber, function, second="x", first=value).value, value)
                self.assertEqual(error_of(InvalidNumber, function, second=value, first=(1, 2)).value, value)
            self.assertIs(error_of(InvalidNumber, function, 1, False).value, False)
            self.assertIs(error_of(InvalidNumber, function, True, False).value, True)

    def test_no_quotient(self):
        for first in SMALL:
            found = error_of(NoQuotient, divided, first, 0).value
            self.assertEqual(found, 0)
            self.assertIsNot(found, False)
            self.assertEqual(error_of(NoQuotient, divided, second=0, first=first).value, 0)
        self.assertEqual(error_of(InvalidNumber, divided, "x", 0).value, "x")


class TextTest(Case):
    def test_texts_of_the_document(self):
        for value, text in [(7, "7"), ((1, 2), "1/2"), ((-7, 3), "-7/3"), (0, "0")]:
            self.assertEqual(number_text(value), text)
            self.assertEqual(number_text(value=value), text)
            self.assert_number(parse_number(text), value)
            self.assert_number(parse_number(text=text), value)

    def test_there_and_back(self):
        ends = [10 ** power + shift for power in range(62) for shift in (-1, 0, 1)]
        values = [*SMALL, *ends, *[-end for end in ends], *[(1, end) for end in ends if end > 1]]
        for digits in (1, 2, 5, 40, 60):
            values += random_numbers(50, digits, digits)
        for value in values:
            text = number_text(value)
            self.assertEqual(text, str(fraction_of(value)))
            self.assertIs(text.__class__, str)
            self.assert_number(parse_number(text), value)

    def test_long_results_can_be_passed_in_again(self):
        # More digits than Python itself writes or reads at once.
        long = times(*[10 ** 59 + 3] * 100)
        low = minus(long, 1)
        for value in [long, low, minus(0, long), divided(long, low), divided(1, times(10 ** 59, long))]:
            text = number_text(value)
            self.assertGreater(len(text), 5899)
            self.assert_number(parse_number(text), value)
        self.assertEqual(number_text(times(*[10 ** 50] * 100)), "1" + "0" * 5000)
        self.assertEqual(number_text(minus(1, times(*[10 ** 50] * 100))), "-" + "9" * 5000)

    def test_number_text_of_other_values(self):
        for value in no_numbers():
            self.assertEqual(error_of(InvalidNumber, number_text, value).value, value)
            self.assertEqual(error_of(InvalidNumber, number_text, value=value).value, value)
        self.assertIs(error_of(InvalidNumber, number_text, True).value, True)

    def test_reading_of_wrong_strings(self):
        wrong = [
            "", " ", "00", "01", "007", "-01", "-0", "--1", "-", "+1", "+", "+0", " 1", "1 ", "1 2", "1\n", "\n1", "1_000",
            "_1", "1_", "a", "1a", "a1", "0x1", "1e3", "1.0", "1.", ".5", "1,5", "/", "1/", "/2", "-/2", "1//2", "1/2/3",
            "1/2/", "/1/2", "1/0", "1/1", "0/1", "0/2", "0/0", "-0/2", "5/1", "2/4", "-2/4", "6/3", "10/15", "1/-2",
            "-1/-2", "1/+2", "+1/2", "1/02", "01/2", "1/00", "1 /2", "1/ 2", " 1/2", "1/2 ", "1/2\n", "1/a", "a/2", "1/-1",
            "1/-0", "-1/1", "(1, 2)", "None", "True", "1/2_0", "1_0/3", "1\\2", "1-2", "1-", "1/2-",
            "0" * 60, "0" * 20000, "/" * 20000, "x" * 20000,
        ]
        for text in wrong:
            self.assertEqual(error_of(InvalidText, parse_number, text).line, 1, repr(text))
            self.assertEqual(error_of(InvalidText, parse_number, text=text).line, 1)

    def test_reading_accepts_exactly_the_texts(self):
        accepted = 0
        for length in range(5):
            for signs in itertools.product("0123-/+ ", repeat=length):
                text = "".join(signs)
                if is_text(text):
                    accepted += 1
                    self.assert_number(parse_number(text), of_fraction(Fraction(text)))
                    self.assertEqual(number_text(parse_number(text)), text)
                else:
                    self.assertEqual(error_of(InvalidText, parse_number, text).line, 1, repr(text))
        self.assertGreater(accepted, 300)

    def test_reading_of_other_values(self):
        for value in [*other_kinds(), 0, 1, -1, (), (1, 2), ("1", "2"), ("1/2",)]:
            self.assertEqual(error_of(InvalidText, parse_number, value).line, 0, repr(value))
            self.assertEqual(error_of(InvalidText, parse_number, text=value).line, 0)


class ArgumentTest(Case):
    def test_arguments_do_not_change(self):
        for value in [[1, [2]], {"a": [1]}, ([1], 2), [[True]], {1, 2}]:
            before = copy.deepcopy(value)
            self.assertIs(is_number(value), False)
            for function in (number, plus, times, number_text):
                error_of(InvalidNumber, function, value)
            for function in (minus, divided, is_less):
                error_of(InvalidNumber, function, 1, value)
            error_of(InvalidText, parse_number, value)
            self.assertEqual(value, before)

    def test_later_changes_to_an_argument_have_no_effect(self):
        value = [1, [2]]
        error = error_of(InvalidNumber, plus, 1, value)
        value[1].append(3)
        self.assertEqual(error.value, [1, [2]])

    def test_all_are_defined_in_their_file(self):
        parameters = {
            is_number: ["value"], number: ["numerator", "denominator"], plus: ["numbers"], times: ["numbers"],
            minus: ["first", "second"], divided: ["first", "second"], is_less: ["first", "second"],
            number_text: ["value"], parse_number: ["text"],
        }
        for function, wanted in parameters.items():
            self.assertTrue(inspect.isfunction(function))
            self.assertEqual(function.__module__, rationals.__name__)
            self.assertEqual(list(inspect.signature(function).parameters), wanted)


if __name__ == "__main__":
    unittest.main()
