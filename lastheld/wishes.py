"""Wishes for the values of several fields: whether they can be met together, and fulfilling them."""

from lastheld.checks import is_pair
from lastheld.errors import Impossible, InvalidWishes
from lastheld.rationals import is_number, plus, times
from lastheld.settings import check_level


def first_wrong_wish(sheet, wishes):
    """The index of the first item that is not a wish for a new field, -1 if wishes is not a list, or None."""
    if not isinstance(wishes, (list, tuple)):
        return -1
    wished = {}
    for at, wish in enumerate(wishes):
        if not is_pair(sheet, wish) or wish[0] in wished:
            return at
        wished[wish[0]] = True
    return None


def check_wishes(state, wishes, level):
    """Raise InvalidWishes for a value that is not a list of wishes, then InvalidLevel for one that is no level."""
    wrong = first_wrong_wish(state.space().sheet(), wishes)
    if wrong is not None:
        raise InvalidWishes(wrong)
    check_level(level)


def fields_above(state, level):
    """The fields whose held settings have a greater level."""
    return [setting[3] for setting in state.held() if setting[0] > level]


def free_wishes(state, wishes, level):
    """The wishes for fields that the fields of greater levels and of the wishes before do not determine."""
    settled = fields_above(state, level)
    chosen = []
    for field, value in wishes:
        if field not in state.space().determined(settled):
            chosen.append((field, value))
            settled.append(field)
    return chosen


def sum_with(coefficients, values):
    """The sum of numbers, each multiplied with the value of its field."""
    parts = [times(coefficients[field], values[field]) for field in coefficients]
    return plus(*parts)


def links(state, wishes, level):
    """For each wish whose field follows from others: a tuple of two dicts with equal sums in each solution.

    The first dict is from fields of wishes, the second one from fields of greater levels.
    """
    above = fields_above(state, level)
    free = [field for field, value in free_wishes(state, wishes, level)]
    found = []
    for field, value in wishes:
        if field in free:
            continue
        terms = state.space().expression(field, above + free)
        first = {given: times(-1, terms[given]) for given in terms if given in free}
        first[field] = 1
        found.append((first, {given: terms[given] for given in terms if given in above}))
    return found


def conflict(state, wishes, *, level=0):
    """A conflict of the wishes, None if they can be met."""
    check_wishes(state, wishes, level)
    for first, second in links(state, wishes, level):
        if sum_with(first, dict(wishes)) != sum_with(second, state.all_values()):
            return (first, second)
    return None


def can_be_met(state, wishes, *, level=0):
    """Whether the wishes can be met."""
    return conflict(state, wishes, level=level) is None


def are_coefficients(value, fields):
    """Whether a value is a dict from some of these fields to numbers other than 0."""
    if not isinstance(value, dict):
        return False
    for field in value:
        if not isinstance(field, str) or field not in fields:
            return False
        if not is_number(value[field]) or value[field] == 0:
            return False
    return True


def is_conflict(state, wishes, value, *, level=0):
    """Whether a value is a conflict of the wishes."""
    check_wishes(state, wishes, level)
    if not isinstance(value, tuple) or len(value) != 2:
        return False
    first, second = value
    numbers = dict(wishes)
    if not are_coefficients(first, list(numbers)) or not are_coefficients(second, fields_above(state, level)):
        return False
    # The fields of the base are free together, so equal sums are written by them in the same way.
    if state.written_by_base(first) != state.written_by_base(second):
        return False
    return sum_with(first, numbers) != sum_with(second, state.all_values())


def wishes_to_assign(state, wishes, level):
    """The wishes that are assigned to fulfil all of them."""
    found = conflict(state, wishes, level=level)
    if found is not None:
        raise Impossible(found)
    return free_wishes(state, wishes, level)


def other_leaving(before, after, wishes):
    """The fields that were in the base before, are not in it afterwards, and are not wished."""
    wished = [field for field, value in wishes]
    staying = after.base() + wished
    return [field for field in before.space().sheet().fields() if field in before.base() and field not in staying]


def fulfil(replica, wishes, *, level=0):
    """Fulfil the wishes. Returns the list of the other fields that leave the base."""
    before = replica.state()
    pairs = wishes_to_assign(before, wishes, level)
    replica.assign_all(*pairs, level=level)
    return other_leaving(before, replica.state(), wishes)


def fulfil_in_group(group, name, wishes, *, level=0):
    """Fulfil the wishes with a replica of a group. Returns the list of the other fields that leave the base."""
    before = group.state(name)
    for field, value in wishes_to_assign(before, wishes, level):
        group.assign(name, field, value, level=level)
    return other_leaving(before, group.state(name), wishes)
