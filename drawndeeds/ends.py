"""What is come to from places, and ends: the lots of places that no letter leaves and in which all come to all."""

from drawndeeds.books import ascending_fault, done, is_word
from drawndeeds.comings import numbers_from
from drawndeeds.keptlots import is_shut, pieces, steps_of


def comes_to(book, p):
    """Return the ascending tuple of all places that are come to from a place."""
    return tuple(sorted(numbers_from(steps_of(book), p)))


def way_into(book, p, lot):
    """Return the first of all words that lead a place to one of a lot of places, or None if there is none."""
    words = {p: ()}
    row = [p]
    at = 0
    while at < len(row):
        here = row[at]
        if here in lot:
            return words[here]
        for letter, deed in enumerate(book[1]):
            if deed[here] not in words:
                words[deed[here]] = words[here] + (letter,)
                row.append(deed[here])
        at += 1
    return None


def ends(book):
    """Return the ascending tuple of all ends."""
    return tuple([places for places in pieces(book) if is_shut(book, places)])


def end_paper(book):
    """Return a right end paper."""
    found = ends(book)
    firsts = tuple([lot[0] for lot in found])
    backs = {p: way_into(book, lot[0], (p,)) for lot in found for p in lot}
    return (found, tuple([(way_into(book, p, firsts), backs.get(p)) for p in range(book[0])]))


def judge_end_paper(book, value):
    """Return None if value, which may be anything, is a right end paper, or its first fault."""
    if not isinstance(value, tuple) or len(value) != 2 or not are_lots(book[0], value[0]):
        return ("form",)
    lots, words = value
    firsts = {p: lot[0] for lot in lots for p in lot}
    if not are_ways(book, firsts, words):
        return ("form",)
    for k, lot in enumerate(lots):
        if not is_shut(book, lot):
            return ("kept", k)
    for p, (there, _) in enumerate(words):
        led = done(book, there)[p]
        if firsts.get(led) != led:
            return ("there", p)
    for p, (_, back) in enumerate(words):
        if back is not None and done(book, back)[firsts[p]] != p:
            return ("back", p)
    return None


def are_lots(n, value):
    """Tell whether value, which may be anything, is a tuple of at least one lot of places as an end paper has them."""
    if not isinstance(value, tuple) or len(value) == 0:
        return False
    taken = {}
    ahead = -1
    for lot in value:
        if ascending_fault(n, lot) is not None or len(lot) == 0 or lot[0] <= ahead:
            return False
        if any([p in taken for p in lot]):
            return False
        ahead = lot[0]
        for p in lot:
            taken[p] = True
    return True


def are_ways(book, firsts, value):
    """Tell whether value, which may be anything, has a pair for each place as an end paper has them."""
    n, deeds = book
    if not isinstance(value, tuple) or len(value) != n:
        return False
    for p, pair in enumerate(value):
        if not isinstance(pair, tuple) or len(pair) != 2 or not is_word(len(deeds), pair[0]):
            return False
        if p in firsts and not is_word(len(deeds), pair[1]):
            return False
        if p not in firsts and pair[1] is not None:
            return False
    return True
