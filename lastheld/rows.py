"""Rows of integer coefficients, and their normal form.

An order is a list of all places of a row. It says in which sequence the places are searched for a pivot.
"""

from lastheld.rationals import common_divisor, integer_text


def pivot_place(row, order):
    """The first place, in this order, with a coefficient other than 0; None if there is none."""
    for place in order:
        if row[place] != 0:
            return place
    return None


def in_lowest_terms(row, order):
    """The multiple of a row that has a positive pivot and no common divisor; a row of zeros as it is."""
    common = 0
    for coefficient in row:
        common = common_divisor(common, coefficient)
    if common == 0:
        return row
    if row[pivot_place(row, order)] < 0:
        common = -common
    return tuple([coefficient // common for coefficient in row])


def cleared(row, by, place, order):
    """A row that has 0 at a place, from a multiple of the given row and one of the row by."""
    if row[place] == 0:
        return row
    # Divided at once, as the coefficients of a row would grow from step to step.
    mixed = [own * by[place] - other * row[place] for own, other in zip(row, by)]
    return in_lowest_terms(tuple(mixed), order)


def remainder(equation, rows, order):
    """What remains of an equation when each row in normal form has cleared its pivot; zeros if it follows."""
    rest = equation
    for row in rows:
        rest = cleared(rest, row, pivot_place(row, order), order)
    return rest


def normal_form(equations, order):
    """The rows in normal form from which the same follows as from these equations."""
    rows = []
    for equation in equations:
        rest = remainder(equation, rows, order)
        pivot = pivot_place(rest, order)
        if pivot is not None:
            added = in_lowest_terms(rest, order)
            rows = [cleared(row, added, pivot, order) for row in rows] + [added]
    return sorted(rows, key=lambda row: order.index(pivot_place(row, order)))


def row_text(row):
    """A row as Python shows a tuple."""
    # Python itself refuses to show integers of some thousand digits.
    texts = [integer_text(coefficient) for coefficient in row]
    if len(texts) == 1:
        return f"({texts[0]},)"
    return "(" + ", ".join(texts) + ")"


def rows_text(rows):
    """A list of rows as Python shows it."""
    return "[" + ", ".join([row_text(row) for row in rows]) + "]"


def numbers_text(numbers):
    """A dict from names to numbers as Python shows it."""
    texts = []
    for name in numbers:
        worth = numbers[name]
        shown = row_text(worth) if isinstance(worth, tuple) else integer_text(worth)
        texts.append(f"{name!r}: {shown}")
    return "{" + ", ".join(texts) + "}"
