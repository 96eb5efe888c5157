"""What the tests themselves make of settings, with Python's own fractions and without the program's rules."""

import functools
import random

import linear
from lastheld.sheets import Sheet
from lastheld.spaces import Space
from lastheld.states import State

VALUES = [0, 1, -4, (1, 2), (-7, 3), 10 ** 30, (10 ** 30 + 1, 3)]


def random_settings(source, fields, count):
    return [(source.choice([0, 0, 1, 2]), source.randint(1, 4), source.choice(["ann", "bo"]), source.choice(fields),
             source.choice(VALUES)) for _ in range(count)]


class Small:
    """A small space, solutions of which every solution is a sum of multiples, and settings."""

    def __init__(self, width, equations, settings):
        self.width = width
        self.equations = equations
        self.fields = list(linear.LETTERS[:width])
        self.space = Space(Sheet(self.fields), equations)
        self.found = linear.solutions(width, equations)
        self.settings = settings

    def state(self):
        """The state of the program for the same settings."""
        return State(self.space, self.settings)

    def places(self, settings):
        return [self.fields.index(setting[3]) for setting in settings]

    def key(self, setting):
        level, time, replica, field, value = setting
        return (level, time, replica, self.fields.index(field), linear.fraction_of(value))

    def sorted(self, settings):
        return sorted(set(settings), key=self.key, reverse=True)

    @functools.cache
    def own_held(self):
        """The held settings by the rule of point [11]."""
        kept = []
        for setting in self.sorted(self.settings):
            if not linear.determine(self.found, self.places(kept), self.fields.index(setting[3])):
                kept.append(setting)
        return kept

    @functools.cache
    def own_base(self):
        places = self.places(self.own_held())
        for place in range(self.width):
            if not linear.determine(self.found, places, place):
                places.append(place)
        return [self.fields[place] for place in places]

    def own_expression(self, field):
        """The expression of a field by the base, in the form of the program."""
        base = self.own_base()
        places = [self.fields.index(given) for given in base]
        numbers = linear.coefficients(self.found, places, self.fields.index(field))
        return {given: linear.number_of(number) for given, number in zip(base, numbers) if number != 0}

    def own_values(self):
        """From each field to its value, by the expressions."""
        held = {setting[3]: linear.fraction_of(setting[4]) for setting in self.own_held()}
        values = {}
        for field in self.fields:
            terms = self.own_expression(field)
            parts = [linear.fraction_of(terms[given]) * held.get(given, 0) for given in terms]
            values[field] = linear.number_of(sum(parts, linear.Fraction(0)))
        return values


def small_cases(count, seed=3):
    """Small spaces, each with so many settings, and some of them with none."""
    source = random.Random(seed)
    cases = []
    for width, equations in linear.few_equations():
        fields = linear.LETTERS[:width]
        cases.append(Small(width, equations, random_settings(source, fields, count)))
    return cases + [Small(width, equations, []) for width, equations in linear.few_equations()[::9]]


def value_total(equation, values):
    """What the left side of an equation adds up to. values: a dict from all fields, in sequence, to numbers."""
    return linear.total(equation, [linear.fraction_of(value) for value in values.values()])
