"""Drawn histories of replicas and groups, for the tests of what holds after any of them."""

import random

import linear
from lastheld.errors import Refused, TooMany
from lastheld.groups import Group
from lastheld.replicas import Replica
from lastheld.sheets import Sheet
from models import VALUES

LEVELS = [0, 0, 0, 1, 2]
NAMES = ["bo", "ann", "cy", "di", "ed", "fi"]


def drawn_replica(source, width, calls=12):
    """A replica with so many fields after some calls, most of which change it."""
    replica = Replica(source.choice(["ann", "bo"]), Sheet(list(linear.LETTERS[:width])))
    for _ in range(calls):
        if source.random() < 0.25 and replica.freedom > 1:
            replica.add_equation(linear.random_row(source, width))
        else:
            draw_assignment(source, replica)
    return replica


def draw_assignment(source, replica):
    """Let a replica assign something, if it is not refused."""
    fields = list(replica.all_values())
    try:
        return replica.assign(source.choice(fields), source.choice(VALUES), level=source.choice(LEVELS))
    except Refused:
        return None


def drawn_replicas(count, seed, calls=12):
    source = random.Random(seed)
    return [drawn_replica(source, source.randint(1, 6), calls) for _ in range(count)]


class History:
    """A group, and beside it what each replica knows by the words of point [21]."""

    def __init__(self, group):
        self.group = group
        self.settings = {name: set() for name in group.names()}
        self.equations = {name: set() for name in group.names()}
        self.messages = []

    def done(self, call):
        """The result of a call: a tuple of a method of the group and its arguments. None if it is refused."""
        word, *given = call
        try:
            if word == "assign":
                return self.assigned(*given)
            result = self.group.deliver(given[0], to=given[1]) if word == "deliver" else getattr(self.group, word)(*given)
        except (Refused, TooMany):
            return None
        self.learn(word, *given)
        return result

    def assigned(self, name, field, value, level):
        setting = (level, self.group.state(name).clock + 1, name, field, value)
        result = self.group.assign(name, field, value, level=level)
        self.settings[name].add(setting)
        return result

    def learn(self, word, first, *others):
        """Note what a replica knows after a call."""
        if word == "add_equation":
            self.equations[first].add(others[0])
        elif word == "send":
            self.messages.append((set(self.settings[first]), set(self.equations[first])))
        elif word == "deliver":
            settings, equations = self.messages[first]
            self.settings[others[0]] |= settings
            self.equations[others[0]] |= equations


def drawn_call(source, group):
    """A call that a group may do next."""
    name = source.choice(group.names())
    fields = group.sheet().fields()
    word = source.choice(["assign", "assign", "assign", "add_equation", "send", "send", "deliver", "deliver", "deliver"])
    if word == "add_equation" and source.random() < 0.6:
        word = "assign"
    if word == "deliver" and group.message_count > 0:
        # Late ones, too, but mostly new ones.
        first = 0 if source.random() < 0.3 else max(0, group.message_count - 4)
        return ("deliver", source.randrange(first, group.message_count), name)
    if word == "add_equation":
        row = linear.random_row(source, len(fields))
        return ("add_equation", name, source.choice([row, *group.state(name).space().rows()[:1]]))
    if word == "send":
        return ("send", name)
    return ("assign", name, source.choice(fields), source.choice(VALUES), source.choice(LEVELS))


def new_group(source):
    width = source.randint(1, 6)
    names = source.sample(NAMES, source.randint(1, 4))
    return Group(Sheet(list(linear.LETTERS[:width])), names)


def drawn_history(source, calls=40):
    """A history after so many calls, and the list of these calls."""
    history = History(new_group(source))
    done = []
    for _ in range(calls):
        done.append(drawn_call(source, history.group))
        history.done(done[-1])
    return (history, done)


def all_told(source, group):
    """Let all replicas know everything, by messages in a drawn sequence that is another one for each of them."""
    numbers = [group.send(name) for name in group.names()]
    for name in group.names():
        for number in source.sample(numbers, len(numbers)) + source.choices(numbers, k=2):
            group.deliver(number, to=name)
