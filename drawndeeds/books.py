"""Books, deeds, words and lots: what they are, and what deeds do."""

from drawndeeds.errors import BadTree
from drawndeeds.words import is_below, is_integer


def word_fault(g, value):
    """Return the path of the first wrong part of what should be a word of g letters, or None."""
    if not isinstance(value, tuple):
        return ()
    for k, member in enumerate(value):
        if not is_below(member, g):
            return (k,)
    return None


def deed_fault(n, value):
    """Return the path of the first wrong part of what should be a deed of n places, or None."""
    if isinstance(value, tuple) and len(value) != n:
        return ()
    return word_fault(n, value)


def ascending_fault(bound, value):
    """Return the path of the first wrong part of what should ascend and stay below bound, or None."""
    if not isinstance(value, tuple):
        return ()
    least = 0
    for k, member in enumerate(value):
        if not is_below(member, bound) or member < least:
            return (k,)
        least = member + 1
    return None


def book_fault(value):
    """Return the path of the first wrong part of what should be a book, or None."""
    if not isinstance(value, tuple) or len(value) != 2:
        return ()
    n, deeds = value
    if not is_integer(n) or n < 1:
        return (0,)
    if not isinstance(deeds, tuple):
        return (1,)
    for k, deed in enumerate(deeds):
        path = deed_fault(n, deed)
        if path is not None:
            return (1, k) + path
    return None


def refuse_path(path):
    """Raise BadTree with a path, if there is one."""
    if path is not None:
        raise BadTree(path)


def check_book(value):
    """Raise BadTree(path) if value, which may be anything, is no book."""
    refuse_path(book_fault(value))


def check_deed(n, value):
    """Raise BadTree(path) if value, which may be anything, is no deed of n places."""
    refuse_path(deed_fault(n, value))


def check_word(g, value):
    """Raise BadTree(path) if value, which may be anything, is no word of g letters."""
    refuse_path(word_fault(g, value))


def check_lot(g, value):
    """Raise BadTree(path) if value, which may be anything, is no lot of g letters."""
    refuse_path(ascending_fault(g, value))


def is_deed(n, value):
    """Tell whether value, which may be anything, is a deed of n places."""
    return deed_fault(n, value) is None


def is_word(g, value):
    """Tell whether value, which may be anything, is a word of g letters."""
    return word_fault(g, value) is None


def is_word_pair(g, value):
    """Tell whether value, which may be anything, is a pair of words of g letters."""
    return isinstance(value, tuple) and len(value) == 2 and is_word(g, value[0]) and is_word(g, value[1])


def idle(n):
    """Return the deed that leads each of n places to itself."""
    return tuple(range(n))


def product(deed, other):
    """Return the deed that does deed first, and then other."""
    return tuple([other[p] for p in deed])


def done(book, word):
    """Return what a word does."""
    n, deeds = book
    deed = idle(n)
    for letter in word:
        deed = product(deed, deeds[letter])
    return deed


def led_to(book, word, p):
    """Return the place to which a word leads a place."""
    for letter in word:
        p = book[1][letter][p]
    return p


def held(deed):
    """Return the ascending tuple of the places that a deed leads to themselves."""
    return tuple([p for p in range(len(deed)) if deed[p] == p])


def reach(deed):
    """Return the ascending tuple of the places to which a deed leads some place."""
    return tuple(sorted(set(deed)))


def rank(deed):
    """Return to how many places a deed leads."""
    return len(reach(deed))


def is_settled(deed):
    """Tell whether a deed done twice is the deed itself."""
    return product(deed, deed) == deed
