"""Which values are names, and which are integers."""

LETTERS = "abcdefghijklmnopqrstuvwxyz"
LONGEST_NAME = 8


def is_name(value):
    """Whether a value is a string of one to eight lowercase letters."""
    if not isinstance(value, str):
        return False
    return 1 <= len(value) <= LONGEST_NAME and all([sign in LETTERS for sign in value])


def is_integer(value):
    """Whether a value is an integer other than True and False."""
    return isinstance(value, int) and not isinstance(value, bool)
