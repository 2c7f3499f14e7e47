"""Integers, numbers, names, and the order of words."""

LONGEST_NAME = 12


def is_integer(value):
    """Tell whether value, which may be anything, is an integer."""
    return isinstance(value, int) and not isinstance(value, bool)


def is_number(value):
    """Tell whether value, which may be anything, is an integer of at least 0."""
    return is_integer(value) and value >= 0


def is_below(value, bound):
    """Tell whether value, which may be anything, is a number below bound."""
    return isinstance(value, int) and not isinstance(value, bool) and 0 <= value < bound


def is_integer_tuple(value):
    """Tell whether value, which may be anything, is a tuple of integers."""
    return isinstance(value, tuple) and all([is_integer(member) for member in value])


def is_name(value):
    """Tell whether value, which may be anything, is a name."""
    if not isinstance(value, str) or not 1 <= len(value) <= LONGEST_NAME:
        return False
    # Of such characters as these only a to z and 0 to 9 are left, and of A to Z none.
    return value.isascii() and value.isalnum() and value.islower() and not value[0].isdigit()


def is_ahead(word, other):
    """Tell whether a word ascends ahead of another one."""
    return (len(word), word) < (len(other), other)
