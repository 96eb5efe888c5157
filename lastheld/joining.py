"""Joining states of one sheet, and what a meeting of two of them will leave as it is."""

from lastheld.errors import OtherSheet
from lastheld.spaces import Space
from lastheld.states import State


def check_one_sheet(states):
    """Raise OtherSheet for the first state that has another sheet than the first one."""
    for at, state in enumerate(states):
        if state.space().sheet() != states[0].space().sheet():
            raise OtherSheet(at)


def joined(first, *others):
    """The join of one state or more."""
    check_one_sheet([first, *others])
    space = first.space()
    settings = first.held()
    clock = first.clock
    for state in others:
        space = Space.joined(space, state.space())
        settings.extend(state.held())
        clock = max(clock, state.clock)
    return State(space, settings, clock=clock)


def join_steps(first, *others):
    """Yield the first state, the join of the first two ones, of the first three ones, and so on."""
    check_one_sheet([first, *others])
    whole = first
    yield whole
    for state in others:
        whole = joined(whole, state)
        yield whole


def brings_nothing(state, other):
    """Whether the join of both is equal to the first one."""
    return joined(state, other) == state


def terms_by_settings(state, field):
    """The expression of a field, by the held settings instead of their fields."""
    terms = state.expression(field)
    # Fields that are held from the beginning are left out, as their value is 0.
    held_terms = [given for given in terms if state.setting_of(given) is not None]
    return {state.setting_of(given): terms[given] for given in held_terms}


def steady_fields(state, whole):
    """The list of the fields that a meeting leaves as they are in a state. whole: the join."""
    fields = state.space().sheet().fields()
    return [field for field in fields if terms_by_settings(state, field) == terms_by_settings(whole, field)]


def forecast(one, other):
    """The held settings of the join, the steady fields of the first state, and those of the other one."""
    whole = joined(one, other)
    return (whole.held(), steady_fields(one, whole), steady_fields(other, whole))
