"""Sheets: a book with names for its letters, and parts with names of their own."""

from math import gcd

from drawndeeds.books import ascending_fault, book_fault, deed_fault, refuse_path, word_fault
from drawndeeds.errors import BadTree, UnknownName
from drawndeeds.words import is_below, is_integer, is_name

SORTS = ("word", "lead", "lot", "field", "parting", "weights", "chances")


def check_sheet(value):
    """Raise BadTree(path) if value, which may be anything, is no sheet."""
    refuse_path(sheet_fault(value))


def sheet_fault(value):
    """Return the path of the first wrong part of what should be a sheet, or None."""
    if not isinstance(value, tuple) or len(value) != 3:
        return ()
    book, names, parts = value
    path = book_fault(book)
    if path is not None:
        return (0,) + path
    path = names_fault(len(book[1]), names)
    if path is not None:
        return (1,) + path
    path = parts_fault(book, parts)
    if path is not None:
        return (2,) + path
    return None


def names_fault(g, value):
    """Return the path of the first wrong part of what should be g unlike names, or None."""
    if not isinstance(value, tuple) or len(value) != g:
        return ()
    taken = {}
    for k, name in enumerate(value):
        if not is_name(name) or name in taken:
            return (k,)
        taken[name] = True
    return None


def parts_fault(book, value):
    """Return the path of the first wrong part of what should be the parts of a sheet, or None."""
    if not isinstance(value, tuple):
        return ()
    taken = {}
    for k, part in enumerate(value):
        path = part_fault(book, taken, part)
        if path is not None:
            return (k,) + path
        taken[part[1]] = True
    return None


def part_fault(book, taken, value):
    """Return the path of the first wrong part of what should be a part with a name not taken, or None."""
    if not isinstance(value, tuple) or len(value) != 3:
        return ()
    sort, name, told = value
    if not isinstance(sort, str) or sort not in SORTS:
        return (0,)
    if not is_name(name) or name in taken:
        return (1,)
    path = told_fault(book, sort, told)
    if path is not None:
        return (2,) + path
    return None


def told_fault(book, sort, value):
    """Return the path of the first wrong part of what should be the value of a part of a sort, or None."""
    n, deeds = book
    g = len(deeds)
    if sort == "word":
        return word_fault(g, value)
    if sort == "lead":
        return deed_fault(n, value)
    if sort == "lot":
        return ascending_fault(g, value)
    if sort == "field":
        return ascending_fault(n, value)
    if sort == "parting":
        return parting_fault(n, value)
    if sort == "weights":
        return weights_fault(g, value)
    return chances_fault(g, value)


def parting_fault(n, value):
    """Return the path of the first wrong part of what should part n places, or None."""
    if not isinstance(value, tuple):
        return ()
    taken = {}
    first = -1
    for k, row in enumerate(value):
        path = row_fault(n, first, taken, row)
        if path is not None:
            return (k,) + path
        first = row[0]
        for place in row:
            taken[place] = True
    # All places are unlike ones below n here, so their number tells whether one is lacking.
    if len(taken) != n:
        return ()
    return None


def row_fault(n, first, taken, value):
    """Return the path of the first wrong part of a tuple of a parting, which begins above first, or None."""
    if not isinstance(value, tuple) or len(value) == 0:
        return ()
    ahead = first
    for j, place in enumerate(value):
        if not is_below(place, n) or place <= ahead or place in taken:
            return (j,)
        ahead = place
    return None


def weights_fault(g, value):
    """Return the path of the first wrong part of what should be g integers, or None."""
    if not isinstance(value, tuple) or len(value) != g:
        return ()
    for k, weight in enumerate(value):
        if not is_integer(weight):
            return (k,)
    return None


def chances_fault(g, value):
    """Return the path of the first wrong part of what should be g chances, or None."""
    if not isinstance(value, tuple) or len(value) != g:
        return ()
    for k, chance in enumerate(value):
        path = fraction_fault(chance)
        if path is None and chance[0] <= 0:
            path = ()
        if path is not None:
            return (k,) + path
    if not add_up_to_one(value):
        return ()
    return None


def fraction_fault(value):
    """Return the path of the first wrong part of what should be a fraction, or None."""
    if not isinstance(value, tuple) or len(value) != 2:
        return ()
    p, q = value
    if not is_integer(p):
        return (0,)
    if not is_integer(q) or q < 1:
        return (1,)
    if gcd(p, q) != 1:
        return ()
    return None


def add_up_to_one(fractions):
    """Tell whether fractions add up to 1."""
    over, under = 0, 1
    for p, q in fractions:
        over, under = over * q + p * under, under * q
    return over == under


def is_fraction(value):
    """Tell whether value, which may be anything, is a fraction."""
    return fraction_fault(value) is None


def letter_of(sheet, name):
    """Return the letter with a name; raises UnknownName(name) if there is none."""
    for letter, other in enumerate(sheet[1]):
        if other == name:
            return letter
    raise UnknownName(name)


def part_of(sheet, name):
    """Return the part with a name, a triple; raises UnknownName(name) if there is none."""
    for part in sheet[2]:
        if part[1] == name:
            return part
    raise UnknownName(name)


def parts_of(sheet, sort):
    """Return the list of the pairs (name, value) of the parts of a sort, which may be anything."""
    return [(name, value) for other, name, value in sheet[2] if other == sort]


def with_part(sheet, part):
    """Return the sheet with a part, which may be anything; raises BadTree(path) with the path in it."""
    path = part_fault(sheet[0], {}, part)
    if path is not None:
        raise BadTree(path)
    return with_right_part(sheet, part)


def with_right_part(sheet, part):
    """Return the sheet with a part in the place of that of its name, or behind all others."""
    book, names, parts = sheet
    return (book, names, placed_at(parts, place_among(part_names(sheet), part[1]), part))


def part_names(sheet):
    """Return the list of the names of a sheet's parts."""
    return [name for _, name, _ in sheet[2]]


def place_among(names, name):
    """Return the number of a name among others, or how many they are if it is none of them."""
    return names.index(name) if name in names else len(names)


def placed_at(row, at, member):
    """Return a tuple with a member in the place of the one with a number, or behind all others."""
    return row[:at] + (member,) + row[at + 1:]


def without_part(sheet, name):
    """Return the sheet without the part with a name; raises UnknownName(name) if there is none."""
    book, names, parts = sheet
    part_of(sheet, name)
    return (book, names, tuple([part for part in parts if part[1] != name]))
