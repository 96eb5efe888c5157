"""What the tests themselves know of linear equations, with Python's own fractions and without the program."""

import itertools
import random
from fractions import Fraction

LETTERS = "abcdefghijkl"


def fraction_of(value):
    """The Fraction with the value of a number of the program."""
    return Fraction(*value) if isinstance(value, tuple) else Fraction(value)


def solved(width, equations):
    """A dict from some places to rows with 1 there, and 0 at the places of all other rows."""
    rows = {}
    for equation in equations:
        rest = [Fraction(coefficient) for coefficient in equation]
        for place, row in rows.items():
            rest = [own - rest[place] * other for own, other in zip(rest, row)]
        # The last place, so that the tests go another way than the normal form.
        places = [place for place in range(width) if rest[place] != 0]
        if places:
            last = places[-1]
            added = [own / rest[last] for own in rest]
            rows = {place: [own - row[last] * new for own, new in zip(row, added)] for place, row in rows.items()}
            rows[last] = added
    return rows


def rank(width, rows):
    return len(solved(width, rows))


def solutions(width, equations):
    """Solutions of which every solution is a sum of multiples."""
    rows = solved(width, equations)
    found = []
    for free in [place for place in range(width) if place not in rows]:
        values = [Fraction(int(place == free)) for place in range(width)]
        for place, row in rows.items():
            values[place] = -row[free]
        found.append(values)
    return found


def columns(found, places):
    return [[values[place] for values in found] for place in places]


def are_free(found, places):
    """Whether, among these solutions, the fields at these places take any numbers."""
    return rank(len(found), columns(found, places)) == len(places)


def determine(found, places, place):
    """Whether the fields at these places determine the one at a place."""
    return rank(len(found), columns(found, places)) == rank(len(found), columns(found, [*places, place]))


def coefficients(found, places, place):
    """The numbers with which the fields at these places, which are free together, add up to the one at a place."""
    rows = [[*[values[given] for given in places], -values[place]] for values in found]
    # With one more unknown for the field itself there is one solution, but for a multiple.
    for solution in solutions(len(places) + 1, rows):
        if solution[-1] != 0:
            return [own / solution[-1] for own in solution[:-1]]
    raise AssertionError("the fields do not determine the other one")


def number_of(fraction):
    """The number of the program with the value of a Fraction."""
    return fraction.numerator if fraction.denominator == 1 else (fraction.numerator, fraction.denominator)


def total(row, values):
    return sum([Fraction(coefficient) * value for coefficient, value in zip(row, values)], Fraction(0))


def added_up(width, rows, numbers):
    """The sum of rows that are multiplied with numbers of the program."""
    sums = [Fraction(0) for _ in range(width)]
    for row, number in zip(rows, numbers, strict=True):
        sums = [own + fraction_of(number) * coefficient for own, coefficient in zip(sums, row)]
    return sums


def few_equations():
    """Many small lists of equations: tuples (width, equations)."""
    source = random.Random(5)
    cases = [(1, []), (1, [(0,)]), (1, [(3,)]), (2, []), (3, [(1, 1, -1)]), (3, [(2, 1, -1)]), (3, [(0, 0, 0)])]
    for row in itertools.product([-2, 0, 1], repeat=3):
        cases.append((3, [row]))
    for width in [2, 3, 4, 5]:
        for count in range(width + 1):
            for _ in range(5):
                cases.append((width, [random_row(source, width) for _ in range(count)]))
    return cases


def random_row(source, width):
    # Many zeros, so that there are components, zero fields and fields without a row.
    return tuple([source.choice([0, 0, 0, 1, -1, 2, 3, -5]) for _ in range(width)])
