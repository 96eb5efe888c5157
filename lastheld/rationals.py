"""Exact rational numbers, each in exactly one form: an integer, or a tuple in lowest terms."""

from lastheld.errors import InvalidNumber, InvalidText, NoQuotient
from lastheld.names import is_integer

DIGITS = "0123456789"


def common_divisor(first, second):
    """The greatest common divisor of two integers, at least 0."""
    while second != 0:
        first, second = second, first % second
    return abs(first)


def is_number(value):
    """Whether a value is an integer, or a numerator and a denominator in lowest terms."""
    if not isinstance(value, tuple):
        return is_integer(value)
    if len(value) != 2 or not all([is_integer(part) for part in value]):
        return False
    numerator, denominator = value
    return denominator >= 2 and common_divisor(numerator, denominator) == 1


def check_numbers(values):
    """Raise InvalidNumber for the first value that is not a number."""
    for value in values:
        if not is_number(value):
            raise InvalidNumber(value)


def parts_of(value):
    """The numerator and the denominator of a number."""
    if isinstance(value, tuple):
        return value
    return (value, 1)


def lowest(numerator, denominator):
    """The number of a numerator and a denominator other than 0, both integers."""
    common = common_divisor(numerator, denominator)
    if denominator < 0:
        common = -common
    above = numerator // common
    below = denominator // common
    if below == 1:
        return above
    return (above, below)


def number(numerator, denominator=1):
    """The number with this numerator and denominator."""
    if not is_integer(numerator):
        raise InvalidNumber(numerator)
    if not is_integer(denominator) or denominator == 0:
        raise InvalidNumber(denominator)
    return lowest(numerator, denominator)


def plus(*numbers):
    """The sum of numbers, 0 of none."""
    check_numbers(numbers)
    total = 0
    for value in numbers:
        above, below = parts_of(total)
        numerator, denominator = parts_of(value)
        total = lowest(above * denominator + numerator * below, below * denominator)
    return total


def times(*numbers):
    """The product of numbers, 1 of none."""
    check_numbers(numbers)
    product = 1
    for value in numbers:
        above, below = parts_of(product)
        numerator, denominator = parts_of(value)
        product = lowest(above * numerator, below * denominator)
    return product


def minus(first, second):
    """The first number minus the second one."""
    check_numbers((first, second))
    return plus(first, times(-1, second))


def divided(first, second):
    """The first number divided by the second one."""
    check_numbers((first, second))
    if second == 0:
        raise NoQuotient(second)
    numerator, denominator = parts_of(second)
    return times(first, lowest(denominator, numerator))


def is_less(first, second):
    """Whether the first number is less than the second one."""
    check_numbers((first, second))
    above, below = parts_of(first)
    numerator, denominator = parts_of(second)
    return above * denominator < numerator * below


def integer_text(value):
    """The decimal text of an integer."""
    # In groups, as Python refuses to write integers of some thousand digits at once.
    rest = abs(value)
    groups = []
    while rest >= 10 ** 60:
        rest, group = divmod(rest, 10 ** 60)
        groups.append(str(group).zfill(60))
    groups.append(str(rest))
    sign = "-" if value < 0 else ""
    return sign + "".join(groups[::-1])


def is_integer_text(text):
    """Whether a string is the decimal text of an integer."""
    if text == "0":
        return True
    digits = text.removeprefix("-")
    return digits != "" and digits[0] != "0" and all([sign in DIGITS for sign in digits])


def integer_of_text(text):
    """The integer with this decimal text."""
    # Digit by digit, as Python refuses to read integers of some thousand digits at once.
    total = 0
    for digit in text.removeprefix("-"):
        total = total * 10 + int(digit)
    return -total if text.startswith("-") else total


def number_text(value):
    """The text of a number."""
    check_numbers((value,))
    if isinstance(value, tuple):
        return "/".join([integer_text(part) for part in value])
    return integer_text(value)


def parse_number(text):
    """The number with this text."""
    if not isinstance(text, str):
        raise InvalidText(0)
    words = text.split("/")
    if not all([is_integer_text(word) for word in words]):
        raise InvalidText(1)
    parts = [integer_of_text(word) for word in words]
    value = parts[0] if len(parts) == 1 else tuple(parts)
    if not is_number(value):
        raise InvalidText(1)
    return value
