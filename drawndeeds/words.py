"""Integers, numbers, names, and the order of words."""

LONGEST_NAME = 12


def is_integer(value):
    """Tell whether value, which may be anything, is an integer."""
    return isinstance(value, int) and not isinstance(value, bool)


def is_number(value):
    """Tell whether value, which may be anything, is an integer of at least 0."""
    return is_integer(value) and value >= 0


def is_below(value, bound):
    """Tell whether value, which may be anything, is a number below bound."""
    return is_number(value) and value < bound


def is_integer_tuple(value):
    """Tell whether value, which may be anything, is a tuple of integers."""
    return isinstance(value, tuple) and all([is_integer(member) for member in value])


def is_small_letter(sign):
    """Tell whether a character is one from a to z."""
    return "a" <= sign <= "z"


def is_figure(sign):
    """Tell whether a character is one from 0 to 9."""
    return "0" <= sign <= "9"


def is_name(value):
    """Tell whether value, which may be anything, is a name."""
    if not isinstance(value, str) or not 1 <= len(value) <= LONGEST_NAME:
        return False
    return is_small_letter(value[0]) and all([is_small_letter(sign) or is_figure(sign) for sign in value])


def is_ahead(word, other):
    """Tell whether a word ascends ahead of another one."""
    return (len(word), word) < (len(other), other)
