"""Kinds of values: what may be asked of any value, and copies of it."""


def is_integer(value):
    """Whether a value is an integer; a bool is none."""
    return type(value) is int


def is_below(value, limit):
    """Whether a value is an integer from 0 to limit - 1."""
    return type(value) is int and 0 <= value < limit


def are_integers(value, many):
    """Whether a value is a tuple of so many integers."""
    if not isinstance(value, tuple) or len(value) != many:
        return False
    for part in value:
        if type(part) is not int:
            return False
    return True


def copied(value):
    """An equal value whose lists and dicts, at any depth, are new."""
    if isinstance(value, list):
        return [copied(part) for part in value]
    if isinstance(value, tuple):
        return tuple([copied(part) for part in value])
    if isinstance(value, dict):
        return {key: copied(part) for key, part in value.items()}
    return value
