"""Groups of replicas that hear of each other by messages, and all that has reached each of them."""

from lastheld.checks import check_field, first_wrong_name
from lastheld.errors import InvalidNames, TooMany, UnknownMessage, UnknownReplica
from lastheld.names import is_integer
from lastheld.rationals import check_numbers
from lastheld.replicas import Replica
from lastheld.settings import check_level, strongest_first
from lastheld.spaces import Space
from lastheld.states import State


class Group:
    """One to six replicas of one sheet, and the messages that they have sent."""

    MAX_REPLICAS = 6
    MAX_MESSAGES = 60

    def __init__(self, sheet, names):
        wrong = first_wrong_name(names, Group.MAX_REPLICAS)
        if wrong is not None:
            raise InvalidNames(wrong)
        self.shared = sheet
        self.members = {name: Replica(name, sheet) for name in names}
        # Tuples, as a message keeps what its sender knew when it was sent.
        self.heard_settings = {name: () for name in names}
        self.heard_equations = {name: () for name in names}
        self.sent = []

    def __eq__(self, other):
        if not isinstance(other, Group):
            return False
        if self.shared != other.shared or list(self.members) != list(other.members):
            return False
        # All replicas of a group have the same default level, so that only their names and states matter.
        return self.members == other.members

    def __len__(self):
        return len(self.members)

    def __repr__(self):
        return f"Group({self.names()!r}, {len(self.sent)})"

    def sheet(self):
        """The sheet."""
        return self.shared

    def names(self):
        """The list of names."""
        return list(self.members)

    @property
    def message_count(self):
        """The number of messages."""
        return len(self.sent)

    def member(self, name):
        """The replica with this name."""
        if not isinstance(name, str) or name not in self.members:
            raise UnknownReplica(name)
        return self.members[name]

    def learn(self, name, settings, equations):
        """Let a replica know these settings and equations as well."""
        self.heard_settings[name] = tuple({heard: True for heard in self.heard_settings[name] + settings})
        self.heard_equations[name] = tuple({heard: True for heard in self.heard_equations[name] + equations})

    def state(self, name):
        """The state of a replica."""
        return self.member(name).state()

    def assign(self, name, field, value, *, level=0):
        """Assign a value at a level. Returns the field that leaves."""
        replica = self.member(name)
        check_field(self.shared, field)
        check_numbers((value,))
        # Here, as a replica takes None for its default level.
        check_level(level)
        leaving = replica.assign(field, value, level=level)
        self.learn(name, (replica.state().setting_of(field),), ())
        return leaving

    def add_equation(self, name, equation):
        """Add an equation. Returns the field that leaves the base, None if the equation follows."""
        leaving = self.member(name).add_equation(equation)
        self.learn(name, (), (equation,))
        return leaving

    def send(self, name):
        """Store a message of a replica. Returns its number."""
        state = self.state(name)
        if len(self.sent) >= Group.MAX_MESSAGES:
            raise TooMany("messages", Group.MAX_MESSAGES)
        self.sent.append((state, self.heard_settings[name], self.heard_equations[name]))
        return len(self.sent) - 1

    def deliver(self, number, *, to):
        """Deliver a message to a replica. Returns the list of the fields whose value has changed there."""
        if not is_integer(number) or not 0 <= number < len(self.sent):
            raise UnknownMessage(number)
        replica = self.member(to)
        state, settings, equations = self.sent[number]
        changed = replica.receive(state)
        self.learn(to, settings, equations)
        return changed

    def known_settings(self, name):
        """The list of the known settings of a replica, strongest first."""
        self.member(name)
        return strongest_first(self.shared, self.heard_settings[name])

    def known_equations(self, name):
        """The list of the known equations of a replica, in ascending order."""
        self.member(name)
        return sorted(self.heard_equations[name])

    def full_state(self, name):
        """The state of all known settings in the space of all known equations."""
        return State(Space(self.shared, self.known_equations(name)), self.known_settings(name))

    def clone(self):
        """An independent, equal group with the same messages."""
        twin = Group(self.shared, self.names())
        twin.members = {name: self.members[name].clone() for name in self.members}
        twin.heard_settings = dict(self.heard_settings)
        twin.heard_equations = dict(self.heard_equations)
        twin.sent = list(self.sent)
        return twin
