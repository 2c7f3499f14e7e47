"""The least lot of members, told by their partings, reaches and turnings."""

from drawndeeds.books import rank, reach
from drawndeeds.errors import NoLot
from drawndeeds.heaps import grown
from drawndeeds.words import is_integer_tuple


def least_lot(book):
    """Return the tuple of the members of the least lot, in the heap's order."""
    members = grown(book)[0]
    least = min([rank(member) for member in members])
    return tuple([member for member in members if rank(member) == least])


def parting_of(deed):
    """Return the tuple that has for each place the least one that a deed leads to the same place."""
    return tuple([deed.index(place) for place in deed])


def turning_of(deed):
    """Return the tuple that has for each place of a deed's reach, in order, the one to which it leads it."""
    return tuple([deed[place] for place in reach(deed)])


def partings(book):
    """Return the ascending list of the partings of the least lot's members."""
    return sorted(set([parting_of(member) for member in least_lot(book)]))


def reaches(book):
    """Return the ascending list of the reaches of the least lot's members."""
    return sorted(set([reach(member) for member in least_lot(book)]))


def turnings(book, reached):
    """Return the ascending list of the turnings on a reach; raises NoLot(reach) if it is none of the reaches."""
    found = []
    if is_integer_tuple(reached):
        found = [turning_of(member) for member in least_lot(book) if reach(member) == reached]
    if len(found) == 0:
        raise NoLot(reached)
    return sorted(set(found))


def told_by(book, m):
    """Return the triple (parting, reach, turning) of a member of the least lot, or None for another member."""
    if m not in least_lot(book):
        return None
    return triple_of(m)


def triple_of(deed):
    """Return the triple (parting, reach, turning) of a deed."""
    return (parting_of(deed), reach(deed), turning_of(deed))


def member_of(book, parting, reached, turning):
    """Return the member of the least lot that has all three, which may be anything, or None."""
    # True equals 1, so a tuple with it could equal one of places.
    if not all([is_integer_tuple(value) for value in (parting, reached, turning)]):
        return None
    for member in least_lot(book):
        if triple_of(member) == (parting, reached, turning):
            return member
    return None
