"""Sheets: fields in a fixed sequence, and the equations between them."""

from lastheld.checks import check_equation, check_field, first_wrong_name
from lastheld.errors import InvalidFields, InvalidNumber, InvalidText
from lastheld.names import is_integer
from lastheld.rationals import integer_of_text, is_integer_text, number_text


def is_coefficient_text(word):
    """Whether a word is the text of an integer other than 0."""
    return word != "0" and is_integer_text(word)


class Sheet:
    """One to twelve fields, different names in a fixed sequence."""

    MAX_FIELDS = 12

    def __init__(self, fields):
        wrong = first_wrong_name(fields, Sheet.MAX_FIELDS)
        if wrong is not None:
            raise InvalidFields(wrong)
        self.listed = tuple(fields)

    @classmethod
    def read(cls, text):
        """The sheet with this text."""
        if not isinstance(text, str):
            raise InvalidText(0)
        words = text.split(" ")
        if first_wrong_name(words, cls.MAX_FIELDS) is not None:
            raise InvalidText(1)
        return cls(words)

    def __eq__(self, other):
        if not isinstance(other, Sheet):
            return False
        return self.listed == other.listed

    def __len__(self):
        return len(self.listed)

    def __str__(self):
        return " ".join(self.listed)

    def __repr__(self):
        return f"Sheet({list(self.listed)!r})"

    def fields(self):
        """The list of fields."""
        return list(self.listed)

    @property
    def width(self):
        """The number of fields."""
        return len(self.listed)

    def has_field(self, value):
        """Whether a value is a field of the sheet."""
        return isinstance(value, str) and value in self.listed

    def place(self, field):
        """The index of a field."""
        check_field(self, field)
        return self.listed.index(field)

    def is_equation(self, value):
        """Whether a value is a tuple of one integer for each field."""
        if not isinstance(value, tuple) or len(value) != len(self.listed):
            return False
        return all([is_integer(coefficient) for coefficient in value])

    def equation(self, **coefficients):
        """The equation with these coefficients, and 0 for all other fields."""
        for name in coefficients:
            check_field(self, name)
        for name in coefficients:
            if not is_integer(coefficients[name]):
                raise InvalidNumber(coefficients[name])
        return tuple([coefficients.get(field, 0) for field in self.listed])

    def equation_text(self, equation):
        """The text of an equation."""
        check_equation(self, equation)
        words = []
        for coefficient, field in zip(equation, self.listed):
            if coefficient != 0:
                words.extend([number_text(coefficient), field])
        return " ".join(words) if words else "0"

    def parse_equation(self, text):
        """The equation with this text."""
        if not isinstance(text, str):
            raise InvalidText(0)
        if text == "0":
            return tuple([0 for field in self.listed])
        words = text.split(" ")
        numbers = words[::2]
        fields = words[1::2]
        if len(numbers) != len(fields) or not all([is_coefficient_text(word) for word in numbers]):
            raise InvalidText(1)
        if fields != [field for field in self.listed if field in fields]:
            raise InvalidText(1)
        coefficients = {field: integer_of_text(word) for field, word in zip(fields, numbers)}
        return tuple([coefficients.get(field, 0) for field in self.listed])
