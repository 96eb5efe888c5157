"""The errors for values that are not fields, equations, or lists of these. A tuple counts as a list."""

from lastheld.errors import InvalidEquation, InvalidEquations, InvalidFields, UnknownField
from lastheld.names import is_name
from lastheld.rationals import is_number


def first_wrong(values, is_right):
    """The index of the first item that is not right, -1 if values is not a list, None if nothing is wrong."""
    if not isinstance(values, (list, tuple)):
        return -1
    for at, value in enumerate(values):
        if not is_right(value):
            return at
    return None


def first_wrong_name(values, most):
    """The index of the first item that is not a name or equals an earlier one.

    -1 if values is not a list of one to so many items, None if nothing is wrong.
    """
    if not isinstance(values, (list, tuple)) or not 1 <= len(values) <= most:
        return -1
    for at, value in enumerate(values):
        if not is_name(value) or value in values[:at]:
            return at
    return None


def check_field(sheet, value):
    """Raise UnknownField for a value that is not a field of the sheet."""
    if not sheet.has_field(value):
        raise UnknownField(value)


def is_pair(sheet, value):
    """Whether a value is a tuple of a field of the sheet and a number."""
    if not isinstance(value, tuple) or len(value) != 2:
        return False
    return sheet.has_field(value[0]) and is_number(value[1])


def check_fields(sheet, values):
    """Raise InvalidFields for a value that is not a list of fields of the sheet."""
    wrong = first_wrong(values, lambda value: sheet.has_field(value))
    if wrong is not None:
        raise InvalidFields(wrong)


def check_equation(sheet, value):
    """Raise InvalidEquation for a value that is not an equation of the sheet."""
    if not sheet.is_equation(value):
        raise InvalidEquation(value)


def check_equations(sheet, values):
    """Raise InvalidEquations for a value that is not a list of equations of the sheet."""
    wrong = first_wrong(values, lambda value: sheet.is_equation(value))
    if wrong is not None:
        raise InvalidEquations(wrong)
