"""States: the held settings of a space, a clock, and the values that follow from them."""

from lastheld.checks import check_field
from lastheld.errors import InvalidClock, OtherSheet
from lastheld.holding import held_and_base
from lastheld.names import is_integer
from lastheld.rationals import plus, times
from lastheld.settings import HIGHEST_LEVEL, check_setting, check_settings, is_stronger


class State:
    """A space, the settings that are held of some settings, and a clock. It never changes."""

    def __init__(self, space, settings=(), *, clock=0):
        check_settings(space.sheet(), settings)
        if not is_integer(clock) or clock < 0:
            raise InvalidClock(clock)
        self.area = space
        self.time = max([clock] + [setting[1] for setting in settings])
        self.kept, self.chosen = held_and_base(space, settings)
        self.holders = {setting[3]: setting for setting in self.kept}
        self.terms = space.all_expressions(self.chosen)
        self.worth = {field: self.sum_by_base(self.terms[field]) for field in self.terms}

    def __eq__(self, other):
        if not isinstance(other, State):
            return False
        return self.area == other.area and self.kept == other.kept and self.time == other.time

    def __len__(self):
        return len(self.kept)

    def __repr__(self):
        return f"State({self.chosen!r}, {self.time})"

    def sum_by_base(self, terms):
        """The value of an expression by the base. Fields that are held from the beginning have the value 0."""
        parts = [times(terms[field], self.holders[field][4]) for field in terms if field in self.holders]
        return plus(*parts)

    def space(self):
        """The space."""
        return self.area

    def held(self):
        """The list of the held settings, strongest first."""
        return list(self.kept)

    @property
    def clock(self):
        """The clock."""
        return self.time

    @property
    def freedom(self):
        """The number of degrees of freedom."""
        return self.area.freedom

    def base(self):
        """The base."""
        return list(self.chosen)

    def setting_of(self, field):
        """The held setting of a field, None if there is none."""
        check_field(self.area.sheet(), field)
        return self.holders.get(field)

    def value_of(self, field):
        """The value of a field."""
        check_field(self.area.sheet(), field)
        return self.worth[field]

    def all_values(self):
        """A dict from all fields, in sequence, to their values."""
        return dict(self.worth)

    def expression(self, field):
        """The expression of a field by the base."""
        check_field(self.area.sheet(), field)
        return dict(self.terms[field])

    def written_by_base(self, coefficients):
        """A sum of multiplied fields, given as a dict from fields to numbers, in the form of an expression."""
        sums = {field: 0 for field in self.chosen}
        for field in coefficients:
            terms = self.terms[field]
            for given in terms:
                sums[given] = plus(sums[given], times(coefficients[field], terms[given]))
        return {field: sums[field] for field in sums if sums[field] != 0}

    def is_held_above(self, field, setting):
        """Whether a field has a held setting that is stronger than a setting."""
        return field in self.holders and is_stronger(self.area.sheet(), self.holders[field], setting)

    def holds(self, setting):
        """Whether a setting holds."""
        return self.reason(setting) is None

    def reason(self, setting):
        """The reason why a setting does not hold, None if it holds."""
        check_setting(self.area.sheet(), setting)
        # The base gives each field one expression only: no other stronger fields could determine the field.
        terms = self.terms[setting[3]]
        if all([self.is_held_above(field, setting) for field in terms]):
            return dict(terms)
        return None

    def least_level(self, field):
        """The least level with which a later setting of a field holds, 3 if none does."""
        check_field(self.area.sheet(), field)
        levels = [self.holders[given][0] if given in self.holders else 0 for given in self.terms[field]]
        return min(levels, default=HIGHEST_LEVEL + 1)

    def with_setting(self, setting):
        """The state of the held settings and this one."""
        check_setting(self.area.sheet(), setting)
        return State(self.area, [*self.kept, setting], clock=self.time)

    def with_equation(self, equation):
        """The state of the held settings in the space with this equation as well."""
        return State(self.area.with_equations(equation), self.kept, clock=self.time)

    def changed_fields(self, other):
        """The list of the fields that have other values in another state."""
        if self.area.sheet() != other.space().sheet():
            raise OtherSheet(0)
        return [field for field in self.worth if self.worth[field] != other.value_of(field)]
