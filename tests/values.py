"""Values of many kinds that the tests pass where a value of another kind is expected."""


class Anything:
    """An object of a class that the package does not know."""


def other_kinds():
    """New values, none of which is a string, an integer other than True and False, or a tuple."""
    return [
        None, True, False, [], [1], [1, 2], ["a"], [[1], [True]], {}, {"a": 1}, {1: [2]}, set(), {1, 2},
        frozenset([1]), b"", b"a", b"1", b"1/2", bytearray(b"a"), range(2), Anything(), Anything, len, ...,
    ]


def error_of(wanted, function, *arguments, **named):
    """The error of this very class that a call raises."""
    try:
        result = function(*arguments, **named)
    except wanted as error:
        if error.__class__ is not wanted:
            raise AssertionError(f"{error.__class__.__name__} instead of {wanted.__name__}") from error
        return error
    raise AssertionError(f"{result!r} instead of {wanted.__name__}")
