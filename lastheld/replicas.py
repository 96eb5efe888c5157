"""Replicas: each has a name and a state, sets fields, adds equations, and hears of other states."""

from lastheld.checks import check_equation, check_field, first_wrong, is_pair
from lastheld.errors import InvalidCount, InvalidName, InvalidPairs, NothingToTakeBack, OtherSheet, Refused
from lastheld.joining import joined
from lastheld.names import is_integer, is_name
from lastheld.rationals import check_numbers
from lastheld.rows import numbers_text
from lastheld.settings import check_level, is_known_level
from lastheld.spaces import Space
from lastheld.states import State

MOST_RECORDS = 100


def weakest(expression):
    """The weakest field of an expression by the base, which has the strongest one first."""
    return list(expression)[-1]


def with_new_setting(state, setting):
    """The state that goes on with a setting of a new time, and the field that leaves its base."""
    cause = state.reason(setting)
    if cause is not None:
        raise Refused(setting[3], setting[0], cause)
    return (state.with_setting(setting), weakest(state.expression(setting[3])))


class Replica:
    """A name, a state, and a default level."""

    ORDINARY = 0
    IMPORTANT = 1
    FIXED = 2

    def __init__(self, name, sheet):
        if not is_name(name):
            raise InvalidName(name)
        self.called = name
        self.current = State(Space(sheet))
        self.usual_level = Replica.ORDINARY
        # The field, the value before, and the level of the assignment that can be taken back.
        self.last_one = None

    @staticmethod
    def is_level(value):
        """Whether a value is a level."""
        return is_known_level(value)

    def __eq__(self, other):
        # A recording replica is another kind of value.
        if not isinstance(other, Replica) or isinstance(other, RecordingReplica):
            return False
        return self.stands_as(other)

    def __repr__(self):
        return f"Replica({self.called!r}, {numbers_text(self.current.all_values())})"

    def stands_as(self, other):
        """Whether the name, the state and the default level of another replica are the same."""
        return (self.called, self.usual_level) == (other.called, other.usual_level) and self.current == other.current

    @property
    def name(self):
        """The name."""
        return self.called

    @property
    def clock(self):
        """The clock of the state."""
        return self.current.clock

    @property
    def freedom(self):
        """The number of degrees of freedom."""
        return self.current.freedom

    @property
    def default_level(self):
        """The level of assignments that name none."""
        return self.usual_level

    def use_level(self, level):
        """Make a level the default level."""
        check_level(level)
        self.usual_level = level

    def state(self):
        """The state."""
        return self.current

    def value_of(self, field):
        """The value of a field."""
        return self.current.value_of(field)

    def all_values(self):
        """A dict from all fields, in sequence, to their values."""
        return self.current.all_values()

    def sheet_of_state(self):
        """The sheet."""
        return self.current.space().sheet()

    def level_or_usual(self, level):
        """The level that is meant, which is the default level for None."""
        return self.usual_level if level is None else level

    def checked_level(self, field, value, level):
        """The level that is meant, after the errors of an assignment that is not refused."""
        check_field(self.sheet_of_state(), field)
        check_numbers((value,))
        meant = self.level_or_usual(level)
        check_level(meant)
        return meant

    def with_assigned(self, state, field, value, level):
        """The state that an assignment makes of a state of this replica, and the field that leaves."""
        return with_new_setting(state, (level, state.clock + 1, self.called, field, value))

    def go_on_with(self, state):
        """Go on with a state. A call that changes nothing leaves the last assignment to be taken back."""
        if state != self.current:
            self.current = state
            self.last_one = None

    def note(self, record):
        """Keep a record of a change: only recording replicas do."""

    def assign(self, field, value, *, level=None):
        """Assign a value at a level. Returns the field that leaves."""
        meant = self.checked_level(field, value, level)
        before = self.value_of(field)
        state, leaving = self.with_assigned(self.current, field, value, meant)
        self.go_on_with(state)
        self.last_one = (field, before, meant)
        self.note(("assign", field, value, meant, leaving))
        return leaving

    def preview(self, field, value, *, level=None):
        """The field that would leave, and the list of the fields whose values would change."""
        meant = self.checked_level(field, value, level)
        state, leaving = self.with_assigned(self.current, field, value, meant)
        return (leaving, self.current.changed_fields(state))

    def assign_all(self, *pairs, level=None):
        """Assign to several fields, one after another. Returns the list of the fields that leave."""
        sheet = self.sheet_of_state()
        wrong = first_wrong(pairs, lambda pair: is_pair(sheet, pair))
        if wrong is not None:
            raise InvalidPairs(wrong)
        return self.assign_each(pairs, level)

    def assign_named(self, *, level=None, **values):
        """Assign to fields that are given by name. Returns the list of the fields that leave."""
        for field in values:
            check_field(self.sheet_of_state(), field)
        pairs = [(field, values[field]) for field in values]
        check_numbers([value for field, value in pairs])
        return self.assign_each(pairs, level)

    def assign_each(self, pairs, level):
        """Assign each pair of a field and a value, or change nothing if one of them is refused."""
        meant = self.level_or_usual(level)
        check_level(meant)
        state = self.current
        records = []
        for field, value in pairs:
            state, leaving = self.with_assigned(state, field, value, meant)
            records.append(("assign", field, value, meant, leaving))
        self.go_on_with(state)
        for record in records:
            self.note(record)
        return [record[4] for record in records]

    def add_equation(self, equation):
        """Add an equation. Returns the field that leaves the base, None if the equation follows."""
        check_equation(self.sheet_of_state(), equation)
        coefficients = dict(zip(self.sheet_of_state().fields(), equation))
        terms = self.current.written_by_base(coefficients)
        # No fields at all are left over exactly if the equation holds in all solutions.
        if terms == {}:
            return None
        self.go_on_with(self.current.with_equation(equation))
        self.note(("equation", equation, weakest(terms)))
        return weakest(terms)

    def receive(self, state):
        """Receive a state. Returns the list of the fields whose value has changed."""
        if state.space().sheet() != self.sheet_of_state():
            raise OtherSheet(0)
        before = self.current
        self.go_on_with(joined(before, state))
        changed = before.changed_fields(self.current)
        self.note(("receive", tuple(changed)))
        return changed

    def take_back(self):
        """Take back the last assignment."""
        if self.last_one is None:
            raise NothingToTakeBack("the last change was not an assignment")
        field, before, level = self.last_one
        state, leaving = self.with_assigned(self.current, field, before, level)
        self.go_on_with(state)
        self.note(("back", field))

    def hand_over(self, twin):
        """Give a new replica of the same name all that this one has."""
        twin.current = self.current
        twin.usual_level = self.usual_level
        twin.last_one = self.last_one

    def clone(self):
        """An independent, equal replica."""
        twin = Replica(self.called, self.sheet_of_state())
        self.hand_over(twin)
        return twin


class RecordingReplica(Replica):
    """A replica that keeps records of its last changes, and counts all of them."""

    def __init__(self, name, sheet, *, most=20):
        super().__init__(name, sheet)
        if not is_integer(most) or not 1 <= most <= MOST_RECORDS:
            raise InvalidCount(most)
        self.most = most
        self.noted = []
        self.counted = 0

    def __eq__(self, other):
        if not isinstance(other, RecordingReplica) or not self.stands_as(other):
            return False
        return self.noted == other.noted and self.counted == other.counted

    def __repr__(self):
        return f"RecordingReplica({self.called!r}, {numbers_text(self.current.all_values())})"

    def note(self, record):
        """Keep a record of a change."""
        self.noted.append(record)
        if len(self.noted) > self.most:
            del self.noted[0]
        self.counted += 1

    def records(self):
        """The list of the records that are kept, the latest one last."""
        return list(self.noted)

    @property
    def total(self):
        """The number of all records."""
        return self.counted

    def clone(self):
        """An independent, equal recording replica."""
        twin = RecordingReplica(self.called, self.sheet_of_state(), most=self.most)
        self.hand_over(twin)
        twin.noted = list(self.noted)
        twin.counted = self.counted
        return twin
