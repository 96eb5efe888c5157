"""The errors of the package, each with the fields that say what was wrong."""


def kept(value):
    """A copy of a value that was passed."""
    # The caller may change a list or a dict later; the field of an error keeps what was passed.
    if isinstance(value, list):
        return [kept(item) for item in value]
    if isinstance(value, tuple):
        return tuple([kept(item) for item in value])
    if isinstance(value, dict):
        return {key: kept(value[key]) for key in value}
    return value


class LastheldError(ValueError):
    """A value that is not valid."""


class InvalidName(LastheldError):
    """A value that is not a name."""

    def __init__(self, value):
        super().__init__("not a name")
        self.value = kept(value)


class InvalidNumber(LastheldError):
    """A value that is not a number."""

    def __init__(self, value):
        super().__init__("not a number")
        self.value = kept(value)


class InvalidLevel(LastheldError):
    """A value that is not a level."""

    def __init__(self, value):
        super().__init__("not a level")
        self.value = kept(value)


class InvalidClock(LastheldError):
    """A value that is not a clock."""

    def __init__(self, value):
        super().__init__("not a clock")
        self.value = kept(value)


class InvalidCount(LastheldError):
    """A value that is not a count."""

    def __init__(self, value):
        super().__init__("not a count")
        self.value = kept(value)


class InvalidFields(LastheldError):
    """A value that is not a list of fields, or an item of it that is not a field."""

    def __init__(self, index):
        super().__init__("not a list of fields")
        self.index = index


class InvalidEquation(LastheldError):
    """A value that is not an equation."""

    def __init__(self, value):
        super().__init__("not an equation")
        self.value = kept(value)


class InvalidEquations(LastheldError):
    """A value that is not a list of equations, or an item of it that is not an equation."""

    def __init__(self, index):
        super().__init__("not a list of equations")
        self.index = index


class InvalidSetting(LastheldError):
    """A value that is not a setting."""

    def __init__(self, value):
        super().__init__("not a setting")
        self.value = kept(value)


class InvalidSettings(LastheldError):
    """A value that is not a list of settings, or an item of it that is not a setting."""

    def __init__(self, index):
        super().__init__("not a list of settings")
        self.index = index


class InvalidPairs(LastheldError):
    """An argument that is not a pair of a field and a number."""

    def __init__(self, index):
        super().__init__("not a pair of a field and a number")
        self.index = index


class InvalidWishes(LastheldError):
    """A value that is not a list of wishes, or an item of it that is not a wish."""

    def __init__(self, index):
        super().__init__("not a list of wishes")
        self.index = index


class InvalidNames(LastheldError):
    """A value that is not a list of names, or an item of it that is not a new name."""

    def __init__(self, index):
        super().__init__("not a list of different names")
        self.index = index


class InvalidText(LastheldError):
    """A value that is not a text, or the line in which it ceases to be one."""

    def __init__(self, line):
        super().__init__("not a text of the expected form")
        self.line = line


class InvalidCommand(LastheldError):
    """A value that is not a command."""

    def __init__(self, command):
        super().__init__("not a command")
        self.command = kept(command)


class MissingError(LookupError):
    """A name or a number of something that does not exist."""


class UnknownField(MissingError):
    """A value that is not a field of the sheet."""

    def __init__(self, value):
        super().__init__("not a field of the sheet")
        self.value = kept(value)


class UnknownReplica(MissingError):
    """A value that is not the name of a replica."""

    def __init__(self, value):
        super().__init__("not the name of a replica")
        self.value = kept(value)


class UnknownMessage(MissingError):
    """A value that is not the number of a message."""

    def __init__(self, value):
        super().__init__("not the number of a message")
        self.value = kept(value)


class StateError(RuntimeError):
    """A call that the given objects do not allow."""


class NotFree(StateError):
    """Fields that are not free together."""

    def __init__(self, given):
        super().__init__("the fields are not free together")
        self.given = kept(given)


class NotDetermined(StateError):
    """A field that the given fields do not determine."""

    def __init__(self, field):
        super().__init__("the field is not determined")
        self.field = field


class OtherSheet(StateError):
    """An argument that has another sheet."""

    def __init__(self, index):
        super().__init__("another sheet")
        self.index = index


class Refused(StateError):
    """An assignment that does not hold."""

    def __init__(self, field, level, cause):
        super().__init__("the assignment does not hold")
        self.field = field
        self.level = level
        self.cause = kept(cause)


class Impossible(StateError):
    """Wishes that cannot be met."""

    def __init__(self, conflict):
        super().__init__("the wishes cannot be met")
        self.conflict = kept(conflict)


class RunFailed(StateError):
    """A run of commands that one of them has ended."""

    def __init__(self, position, results):
        super().__init__("a command of the run failed")
        self.position = position
        self.results = kept(results)


class NothingToTakeBack(StateError):
    """There is no assignment that can be taken back."""


class LimitError(ArithmeticError):
    """A limit, or a result that does not exist."""


class TooMany(LimitError):
    """More of a kind than the limit allows."""

    def __init__(self, kind, limit):
        super().__init__("the limit is reached")
        self.kind = kind
        self.limit = limit


class NoQuotient(LimitError):
    """A divisor that is 0."""

    def __init__(self, value):
        super().__init__("no quotient")
        self.value = kept(value)
