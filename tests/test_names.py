"""Names and integers: point [2] of the document, and the item "names" of its interface."""

import copy
import inspect
import string
import unittest

from lastheld import names
from lastheld.names import is_integer, is_name
from values import other_kinds

PRINTABLE = [chr(code) for code in range(32, 127)] + ["\n"]


class NameTest(unittest.TestCase):
    def test_one_to_eight_lowercase_letters(self):
        for letter in string.ascii_lowercase:
            for length in range(1, 9):
                self.assertIs(is_name(letter * length), True, (letter, length))
        for text in ["a", "z", "ab", "net", "tax", "gross", "abcdefgh", "stuvwxyz", "zyxwvu"]:
            self.assertIs(is_name(text), True, text)

    def test_no_other_length(self):
        for text in ["", "abcdefghi", "abcdefghij", "z" * 9, "z" * 10, "a" * 20000]:
            self.assertIs(is_name(text), False, text)

    def test_no_other_sign_at_any_place(self):
        for sign in PRINTABLE:
            wanted = sign in string.ascii_lowercase
            for text in [sign, sign + "b", "b" + sign, "b" + sign + "c", "bcdefgh" + sign, sign + "bcdefgh"]:
                self.assertIs(is_name(text), wanted, repr(text))

    def test_wrong_strings_of_each_length(self):
        for length in range(1, 11):
            for place in range(length):
                for sign in ["A", "Z", "0", "9", " ", "_", "-", "/", "`", "{", "\n"]:
                    text = "m" * place + sign + "m" * (length - place - 1)
                    self.assertIs(is_name(text), False, repr(text))

    def test_values_of_other_kinds(self):
        for value in [*other_kinds(), 0, 1, -1, (), ("a",), ("a", "b"), (1, 2)]:
            self.assertIs(is_name(value), False, repr(value))


class IntegerTest(unittest.TestCase):
    def test_integers(self):
        big = int("123456789" * 6)
        for value in [0, 1, -1, 2, -2, 7, 10, -99, 10 ** 49, -(10 ** 49), 10 ** 50 - 1, big, -big, 10 ** 59]:
            self.assertIs(is_integer(value), True, value)

    def test_true_and_false_are_no_integers(self):
        self.assertIs(is_integer(True), False)
        self.assertIs(is_integer(False), False)
        self.assertIs(is_integer(1), True)
        self.assertIs(is_integer(0), True)

    def test_values_of_other_kinds(self):
        for value in [*other_kinds(), "", "0", "1", "-1", "a", (), (1,), (1, 2), (True, False)]:
            self.assertIs(is_integer(value), False, repr(value))


class BothTest(unittest.TestCase):
    def test_by_name(self):
        self.assertIs(is_name(value="net"), True)
        self.assertIs(is_name(value="Net"), False)
        self.assertIs(is_integer(value=-5), True)
        self.assertIs(is_integer(value=True), False)

    def test_arguments_do_not_change(self):
        for value in [["a", ["b"]], {"a": [1], "b": {}}, (1, [2]), {1, 2}, bytearray(b"ab")]:
            before = copy.deepcopy(value)
            for predicate in (is_name, is_integer):
                self.assertIs(predicate(value), False)
                self.assertIs(predicate(value=value), False)
                self.assertEqual(value, before)

    def test_a_repeated_call_returns_the_same(self):
        for value in ["net", "Net", 5, True, None]:
            self.assertIs(is_name(value), is_name(value))
            self.assertIs(is_integer(value), is_integer(value))

    def test_both_are_defined_in_their_file(self):
        for function in (is_name, is_integer):
            self.assertTrue(inspect.isfunction(function))
            self.assertEqual(function.__module__, names.__name__)
            self.assertEqual(list(inspect.signature(function).parameters), ["value"])


if __name__ == "__main__":
    unittest.main()
