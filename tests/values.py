"""Values of many kinds that the tests pass where a value of another kind is expected."""


class Anything:
    """An object of a class that the package does not know."""


class EqualToAll:
    """An object that calls itself equal to everything."""

    def __eq__(self, other):
        return True

    def __hash__(self):
        return hash("a")


def other_kinds():
    """New values, none of which is a string, an integer other than True and False, or a tuple."""
    return [
        None, True, False, [], [1], [1, 2], ["a"], [[1], [True]], {}, {"a": 1}, {1: [2]}, set(), {1, 2},
        frozenset([1]), b"", b"a", b"1", b"1/2", bytearray(b"a"), range(2), Anything(), Anything, len, ...,
    ]


def no_lists():
    """New values, none of which is a list or a tuple."""
    return [value for value in other_kinds() if not isinstance(value, list)] + [0, 1, -1, "", "a", "ab", "a b", {"b"}]


def error_of(wanted, function, *arguments, **named):
    """The error of this very class that a call raises."""
    try:
        result = function(*arguments, **named)
    except wanted as error:
        if error.__class__ is not wanted:
            raise AssertionError(f"{error.__class__.__name__} instead of {wanted.__name__}") from error
        return error
    raise AssertionError(f"{result!r} instead of {wanted.__name__}")
