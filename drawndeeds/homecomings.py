"""Homecomings: how many places all words of a length hold, by their letters' worths."""

from drawndeeds.tables import power_of, table_of, trace_of


def homecomings(book, worths, t):
    """Return the homecomings of t draws, worths being a list of a number for each letter."""
    return trace_of(power_of(table_of(book, worths), t))


def homecomings_by(told, worths, t):
    """Return the sum, over pairs (lot, number), of number times the t-th power of the sum of the lot's worths."""
    return sum([number * raised(sum([worths[letter] for letter in lot]), t) for lot, number in told])


def raised(base, t):
    """Return the t-th power of an integer; 0 to the 0 is 1."""
    made = 1
    for _ in range(t):
        made = made * base
    return made
