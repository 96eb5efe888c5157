"""A console: commands, as strings of words, for a group of its own."""

from lastheld.errors import InvalidCommand, InvalidText, LastheldError, LimitError, MissingError, RunFailed, StateError
from lastheld.joining import forecast
from lastheld.rationals import integer_text, number_text, parse_number
from lastheld.settings import is_known_level
from lastheld.texts import parse_unsigned, setting_text
from lastheld.wishes import fulfil_in_group

# For each command the forms of the words behind it. EQUATION and WISHES stand for all words that are left.
FORMS = {
    "assign": ("REPLICA", "FIELD", "VALUE", "LEVEL"),
    "equation": ("REPLICA", "EQUATION"),
    "send": ("REPLICA",),
    "deliver": ("NUMBER", "REPLICA"),
    "fulfil": ("REPLICA", "LEVEL", "WISHES"),
    "value": ("REPLICA", "FIELD"),
    "values": ("REPLICA",),
    "expression": ("REPLICA", "FIELD"),
    "base": ("REPLICA",),
    "clock": ("REPLICA",),
    "freedom": ("REPLICA",),
    "least": ("REPLICA", "FIELD"),
    "held": ("REPLICA",),
    "rows": ("REPLICA",),
    "components": ("REPLICA",),
    "forecast": ("REPLICA", "REPLICA"),
}


def parse_level(text):
    """The level with this text."""
    level = parse_unsigned(text)
    if not is_known_level(level):
        raise InvalidText(1)
    return level


def parse_wishes(text):
    """The list of tuples of a field and a number with this text, at least one."""
    words = text.split(" ")
    fields = words[::2]
    numbers = words[1::2]
    if len(fields) != len(numbers):
        raise InvalidText(1)
    return [(field, parse_number(number)) for field, number in zip(fields, numbers)]


def parse_word(sheet, form, text):
    """The argument that a text of this form gives. Replicas and fields may be any words."""
    if form == "VALUE":
        return parse_number(text)
    if form == "LEVEL":
        return parse_level(text)
    if form == "NUMBER":
        return parse_unsigned(text)
    if form == "EQUATION":
        return sheet.parse_equation(text)
    if form == "WISHES":
        return parse_wishes(text)
    return text


def parse_words(sheet, forms, words):
    """The list of the arguments that words of these forms give."""
    texts = list(words)
    if forms[-1] in ("EQUATION", "WISHES"):
        several = len(forms) - 1
        texts = words[:several] + [" ".join(words[several:])]
    if len(texts) != len(forms):
        raise InvalidText(1)
    return [parse_word(sheet, form, text) for form, text in zip(forms, texts)]


def parts_text(parts, between=" "):
    """The text of a result that consists of several parts."""
    return between.join(parts) if parts else "-"


def pairs_text(numbers):
    """The text of a dict from fields to numbers."""
    return parts_text([f"{field}={number_text(numbers[field])}" for field in numbers])


def assign_result(group, given):
    """The field that leaves."""
    name, field, value, level = given
    return group.assign(name, field, value, level=level)


def equation_result(group, given):
    """The field that leaves the base, if there is one."""
    name, equation = given
    leaving = group.add_equation(name, equation)
    return "-" if leaving is None else leaving


def send_result(group, given):
    """The number of the message."""
    return integer_text(group.send(given[0]))


def deliver_result(group, given):
    """The fields whose value has changed."""
    number, name = given
    return parts_text(group.deliver(number, to=name))


def fulfil_result(group, given):
    """The other fields that leave."""
    name, level, wishes = given
    return parts_text(fulfil_in_group(group, name, wishes, level=level))


def value_result(group, given):
    """The value of a field."""
    name, field = given
    return number_text(group.state(name).value_of(field))


def values_result(group, given):
    """The values of all fields."""
    return pairs_text(group.state(given[0]).all_values())


def expression_result(group, given):
    """The expression of a field."""
    name, field = given
    return pairs_text(group.state(name).expression(field))


def base_result(group, given):
    """The base."""
    return parts_text(group.state(given[0]).base())


def clock_result(group, given):
    """The clock."""
    return integer_text(group.state(given[0]).clock)


def freedom_result(group, given):
    """The freedom."""
    return integer_text(group.state(given[0]).freedom)


def least_result(group, given):
    """The least level of a field."""
    name, field = given
    return integer_text(group.state(name).least_level(field))


def held_result(group, given):
    """The held settings."""
    settings = group.state(given[0]).held()
    return parts_text([setting_text(group.sheet(), setting) for setting in settings], "; ")


def rows_result(group, given):
    """The rows."""
    rows = group.state(given[0]).space().rows()
    return parts_text([group.sheet().equation_text(row) for row in rows], "; ")


def components_result(group, given):
    """The components."""
    components = group.state(given[0]).space().components()
    return parts_text([",".join(component) for component in components])


def forecast_result(group, given):
    """The steady fields of both states."""
    name, other = given
    steady = forecast(group.state(name), group.state(other))
    return parts_text(steady[1]) + " | " + parts_text(steady[2])


ACTIONS = {
    "assign": assign_result,
    "equation": equation_result,
    "send": send_result,
    "deliver": deliver_result,
    "fulfil": fulfil_result,
    "value": value_result,
    "values": values_result,
    "expression": expression_result,
    "base": base_result,
    "clock": clock_result,
    "freedom": freedom_result,
    "least": least_result,
    "held": held_result,
    "rows": rows_result,
    "components": components_result,
    "forecast": forecast_result,
}


def parse_command(sheet, command):
    """The first word of a command, and the list of the arguments that the others give."""
    if not isinstance(command, str) or "\n" in command:
        raise InvalidCommand(command)
    words = command.split(" ")
    if "" in words or words[0] not in FORMS:
        raise InvalidCommand(command)
    try:
        return (words[0], parse_words(sheet, FORMS[words[0]], words[1:]))
    except InvalidText:
        raise InvalidCommand(command) from None


def executed(group, command):
    """The result of a command that a group executes."""
    word, given = parse_command(group.sheet(), command)
    action = ACTIONS[word]
    return action(group, given)


class Console:
    """A group of its own, and a log of what it has executed."""

    def __init__(self, group):
        self.played = group.clone()
        self.logged = []

    def execute(self, command):
        """Execute a command. Returns its result."""
        result = executed(self.played, command)
        self.logged.append(("alone", command))
        return result

    def run(self, commands):
        """Execute a list of commands. Returns the list of results; nothing changes if one of them fails."""
        if not isinstance(commands, (list, tuple)):
            raise InvalidCommand(commands)
        trial = self.played.clone()
        results = []
        for at, command in enumerate(commands):
            try:
                results.append(executed(trial, command))
            except (LastheldError, MissingError, StateError, LimitError) as error:
                self.logged.append(("run", len(commands), len(results)))
                raise RunFailed(at, results) from error
        self.played = trial
        self.logged.append(("run", len(commands), len(results)))
        return results

    def log(self):
        """The list of what was executed."""
        return list(self.logged)

    def group(self):
        """A copy of the group."""
        return self.played.clone()
