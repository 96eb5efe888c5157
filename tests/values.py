"""Values of many kinds that the tests pass where a value of another kind is expected."""


class Anything:
    """An object of a class that the package does not know."""


class EqualToAll:
    """An object that calls itself equal to everything."""

    def __eq__(self, other):
        return True

    def __hash__(self):
        return hash("a")


def other_kinds():
    """New values, none of which is a string, an integer other than True and False, or a tuple."""
    return [
        None, True, False, [], [1], [1, 2], ["a"], [[1], [True]], {}, {"a": 1}, {1: [2]}, set(), {1, 2},
        frozenset([1]), b"", b"a", b"1", b"1/2", bytearray(b"a"), range(2), Anything(), Anything, len, ...,
    ]


def no_lists():
    """New values, none of which is a list or a tuple."""
    return [value for value in other_kinds() if not isinstance(value, list)] + [0, 1, -1, "", "a", "ab", "a b", {"b"}]


def error_of(wanted, function, *arguments, **named):
    """The error of this very class that a call raises."""
    try:
        result = function(*arguments, **named)
    except wanted as error:
        if error.__class__ is not wanted:
            raise AssertionError(f"{error.__class__.__name__} instead of {wanted.__name__}") from error
        return error
    raise AssertionError(f"{result!r} instead of {wanted.__name__}")


def no_numbers():
    """New values that are not numbers."""
    return [*other_kinds(), "", "1", "1/2", "a", (), (1,), (2, 4), (3, 1), (0, 2), (1, -2), (1, 0), (0, 1), (True, 2),
            (1, True), (1, 2, 3), ("1", 2), ((1, 2), 3), ((1, 2),)]


def no_levels():
    """New values that are not levels."""
    return [*other_kinds(), -1, 3, 4, 10 ** 55, "", "0", "1", "a", (), (1,), (1, 2), (0,)]


def no_names():
    """New values that are not names."""
    return [*other_kinds(), 0, 1, "", "A", "Ann", "ann ", " ann", "an n", "abcdefghi", "a1", "a-b", "ann\n", ("ann",)]


def no_fields():
    """New values that are not fields of a sheet with the fields a, b, c, s."""
    return [*no_names(), "d", "x", "ab", "as", "ann", ("a",), EqualToAll()]


def no_equations():
    """New values that are not equations of a sheet with three fields."""
    return [*other_kinds(), 0, 1, "", "1 a", "111", (), (1,), (1, 1), (1, 1, 1, 1), [1, 1, -1], (1, 1, True),
            (False, 1, 1), (1, 1, None), (1, 1, "1"), (1, 1, (1, 2)), ((1, 1, -1),)]


def no_settings():
    """New values that are not settings of a sheet with the fields a, b, s."""
    good = (0, 1, "ann", "a", 3)
    values = [*other_kinds(), 0, 1, "", "0 1 ann a 3", (), good[:4], (*good, 1), list(good), (good,), [good], good[::-1]]
    values += [(level, *good[1:]) for level in no_levels()]
    values += [(0, time, *good[2:]) for time in [*other_kinds(), 0, -1, "1", (1, 2)]]
    values += [(0, 1, name, "a", 3) for name in no_names()]
    values += [(0, 1, "ann", field, 3) for field in no_fields()]
    return values + [(*good[:4], value) for value in no_numbers()]


def public_parts(value):
    """A list of all lists and dicts in a value, the innermost ones first."""
    parts = []
    if isinstance(value, (list, tuple)):
        for item in value:
            parts += public_parts(item)
    if isinstance(value, dict):
        for item in value.values():
            parts += public_parts(item)
    return parts + ([value] if isinstance(value, (list, dict)) else [])


def spoil(value):
    """Change all lists and dicts in a value that belongs to the caller."""
    for part in public_parts(value):
        if isinstance(part, dict):
            part["spoilt"] = "spoilt"
        else:
            part.append("spoilt")
