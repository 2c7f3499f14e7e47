"""Kept partings of the places, whose lots all letters lead into lots, and the books of lumps."""

from drawndeeds.sheets import parting_fault


def lots_by_place(n, parting):
    """Return the list that has for each of n places the number of its lot in a parting."""
    numbers = [0] * n
    for k, lot in enumerate(parting):
        for p in lot:
            numbers[p] = k
    return numbers


def is_kept_parting(book, value):
    """Tell whether value, which may be anything, is a kept parting."""
    n, deeds = book
    if parting_fault(n, value) is not None:
        return False
    numbers = lots_by_place(n, value)
    return all([numbers[deed[p]] == numbers[deed[lot[0]]] for deed in deeds for lot in value for p in lot])


def parting_by(marks):
    """Return the parting in which two places are together if they have the same mark."""
    lots = {}
    for p, mark in enumerate(marks):
        lots.setdefault(mark, []).append(p)
    return tuple([tuple(lot) for lot in list(lots.values())])


def bound(n, deeds, bonds):
    """Return the finest parting that deeds keep in which the two places of each of some bonds are together."""
    marks = list(range(n))
    waiting = list(bonds)
    while len(waiting) > 0:
        p, q = waiting.pop()
        one, other = marks[p], marks[q]
        if one != other:
            marks = [one if mark == other else mark for mark in marks]
            waiting.extend([(deed[p], deed[q]) for deed in deeds])
    return parting_by(marks)


def kept_with(book, p, q):
    """Return the finest kept parting with two places in one lot."""
    return bound(book[0], book[1], [(p, q)])


def kept_partings(book):
    """Return the ascending list of all kept partings."""
    n, deeds = book
    # Place by place, told by the number of each one's lot, as long as no two places of a lot are led apart.
    rows = [()]
    for p in range(n):
        rows = [row + (k,) for row in rows for k in range(count_of_lots(row) + 1) if are_kept(deeds, row + (k,))]
    return sorted([parting_by(row) for row in rows])


def count_of_lots(row):
    """Return how many unlike numbers there are in a row that has all from 0 on."""
    return max(row) + 1 if len(row) > 0 else 0


def are_kept(deeds, row):
    """Tell whether deeds lead no two of the first places apart, row telling the numbers of their lots."""
    for deed in deeds:
        led = {}
        for k, q in zip(row, deed):
            if q < len(row) and led.setdefault(k, row[q]) != row[q]:
                return False
    return True


def joined(book, one, other):
    """Return the finest kept parting that both of two kept ones are finer than."""
    # What letters lead together of what is bound in one of both is bound in it already.
    return bound(book[0], (), [(lot[0], p) for lot in one + other for p in lot])


def common(book, one, other):
    """Return the parting of the places that are together in both of two kept ones."""
    n = book[0]
    return parting_by(list(zip(lots_by_place(n, one), lots_by_place(n, other))))


def lumped(book, parting):
    """Return the book of lumps of a kept parting."""
    numbers = lots_by_place(book[0], parting)
    return (len(parting), tuple([tuple([numbers[deed[lot[0]]] for lot in parting]) for deed in book[1]]))
