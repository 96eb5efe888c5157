"""Settings of fields, and which of two is stronger."""

from lastheld.checks import first_wrong
from lastheld.errors import InvalidLevel, InvalidSetting, InvalidSettings
from lastheld.names import is_integer, is_name
from lastheld.rationals import common_divisor, is_number, parts_of

HIGHEST_LEVEL = 2


def is_known_level(value):
    """Whether a value is an integer from 0 to 2."""
    return is_integer(value) and 0 <= value <= HIGHEST_LEVEL


def check_level(value):
    """Raise InvalidLevel for a value that is not a level."""
    if not is_known_level(value):
        raise InvalidLevel(value)


def is_setting(sheet, value):
    """Whether a value is a tuple (level, time, replica, field, value) for the sheet."""
    if not isinstance(value, tuple) or len(value) != 5:
        return False
    level, time, replica, field, worth = value
    if not is_known_level(level) or not is_integer(time) or time < 1:
        return False
    return is_name(replica) and sheet.has_field(field) and is_number(worth)


def check_setting(sheet, value):
    """Raise InvalidSetting for a value that is not a setting."""
    if not is_setting(sheet, value):
        raise InvalidSetting(value)


def check_settings(sheet, values):
    """Raise InvalidSettings for a value that is not a list of settings."""
    wrong = first_wrong(values, lambda value: is_setting(sheet, value))
    if wrong is not None:
        raise InvalidSettings(wrong)


def common_unit(settings):
    """A common multiple of the denominators of all values."""
    unit = 1
    for setting in settings:
        denominator = parts_of(setting[4])[1]
        unit = unit * denominator // common_divisor(unit, denominator)
    return unit


def strength(sheet, setting, unit):
    """Parts in the order in which they decide; the stronger setting has the greater ones.

    unit: a common multiple of the denominators of all values that are compared, so that integers stand for them.
    """
    level, time, replica, field, value = setting
    numerator, denominator = parts_of(value)
    return (level, time, replica, sheet.place(field), numerator * (unit // denominator))


def is_stronger(sheet, first, second):
    """Whether the first setting is stronger than the second one."""
    check_setting(sheet, first)
    check_setting(sheet, second)
    unit = common_unit((first, second))
    return strength(sheet, first, unit) > strength(sheet, second, unit)


def strongest_first(sheet, settings):
    """The list of the settings, strongest first, equal ones once."""
    check_settings(sheet, settings)
    unit = common_unit(settings)
    different = list({setting: True for setting in settings})
    return sorted(different, key=lambda setting: strength(sheet, setting, unit), reverse=True)
