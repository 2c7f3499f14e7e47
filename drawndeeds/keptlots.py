"""Kept lots of places, which no letter leaves, the books of one and of the rest, and pieces."""

from drawndeeds.books import ascending_fault
from drawndeeds.comings import mutual, numbers_from
from drawndeeds.errors import UnknownName
from drawndeeds.words import is_below


def steps_of(book):
    """Return for each place the list of the places to which the letters lead it."""
    return [[deed[p] for deed in book[1]] for p in range(book[0])]


def is_kept(book, value):
    """Tell whether value, which may be anything, is a kept lot of places."""
    return ascending_fault(book[0], value) is None and len(value) > 0 and is_shut(book, value)


def is_shut(book, places):
    """Tell whether no letter leads one of some places to another place than these."""
    among = {p: True for p in places}
    return all([deed[p] in among for deed in book[1] for p in places])


def least_kept(book, places):
    """Return the least kept lot with some places."""
    steps = steps_of(book)
    return tuple(sorted(set([q for p in places for q in numbers_from(steps, p)])))


def kept_lots(book):
    """Return the ascending list of all kept lots of places."""
    # A kept lot is what is come to from its places, together; so all are met when one place after another joins in.
    found = [()]
    for p in range(book[0]):
        least = least_kept(book, [p])
        found = sorted(set(found + [tuple(sorted(set(lot + least))) for lot in found]))
    return found[1:]


def new_numbers(places):
    """Return the dict of the numbers that places have anew from 0 on, in their order."""
    return {p: k for k, p in enumerate(places)}


def book_of_lot(book, lot):
    """Return the book of a kept lot of places."""
    numbers = new_numbers(lot)
    return (len(lot), tuple([tuple([numbers[deed[p]] for p in lot]) for deed in book[1]]))


def rest_of(book, lot):
    """Return the rest of a book without a kept lot of places."""
    return with_one_more(book, [p for p in range(book[0]) if p not in lot])


def with_one_more(book, places):
    """Return the book of some places, numbered anew, and of one more behind them that stands for all others."""
    numbers = new_numbers(places)
    last = len(places)
    deeds = [tuple([numbers.get(deed[p], last) for p in places]) + (last,) for deed in book[1]]
    return (last + 1, tuple(deeds))


def pieces(book):
    """Return the tuple of the pieces of a book."""
    return tuple([tuple(places) for places in mutual(steps_of(book))])


def book_of_piece(book, k):
    """Return the book of the piece with a number; raises UnknownName(k) if k, which may be anything, is none."""
    found = pieces(book)
    if not is_below(k, len(found)):
        raise UnknownName(k)
    return with_one_more(book, found[k])
