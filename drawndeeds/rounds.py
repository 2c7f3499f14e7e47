"""The rounds of ends: into how many lots of places the letters lead in turn."""

from math import gcd

from drawndeeds.books import ascending_fault, is_word, led_to
from drawndeeds.ends import ends, way_into


def round_of(book, k):
    """Return the round of the end with a number."""
    return len(round_lots(book, k))


def round_lots(book, k):
    """Return the tuple of the round lots of the end with a number."""
    places = ends(book)[k]
    lengths = [len(way_into(book, places[0], (p,))) for p in places]
    at = {p: length for p, length in zip(places, lengths)}
    found = 0
    for deed in book[1]:
        for p in places:
            found = gcd(found, at[p] + 1 - at[deed[p]])
    return tuple([tuple([p for p in places if at[p] % found == j]) for j in range(found)])


def round_paper(book, k):
    """Return a right round paper for the end with a number."""
    places = ends(book)[k]
    lots = round_lots(book, k)
    words = []
    found = 0
    for p in places:
        for letter, deed in enumerate(book[1]):
            word = way_into(book, places[0], (p,)) + (letter,) + way_into(book, deed[p], (places[0],))
            if gcd(found, len(word)) != found:
                found = gcd(found, len(word))
                words.append(word)
    return (lots, tuple(words))


def judge_round_paper(book, k, value):
    """Return None if value, which may be anything, is a right round paper for the end, or its first fault."""
    if not is_round_form(book, value):
        return ("form",)
    lots, words = value
    places = ends(book)[k]
    if sorted([p for lot in lots for p in lot]) != list(places) or places[0] not in lots[0]:
        return ("lots",)
    for j, lot in enumerate(lots):
        onward = lots[(j + 1) % len(lots)]
        for p in lot:
            if not all([deed[p] in onward for deed in book[1]]):
                return ("next", j, p)
    found = 0
    for i, word in enumerate(words):
        if led_to(book, word, places[0]) != places[0]:
            return ("word", i)
        found = gcd(found, len(word))
    if found != len(lots):
        return ("round",)
    return None


def is_round_form(book, value):
    """Tell whether value, which may be anything, is a pair of a tuple of lots of places and a tuple of words."""
    n, deeds = book
    if not isinstance(value, tuple) or len(value) != 2:
        return False
    lots, words = value
    if not isinstance(lots, tuple) or not isinstance(words, tuple) or len(lots) == 0:
        return False
    if not all([ascending_fault(n, lot) is None and len(lot) > 0 for lot in lots]):
        return False
    return all([is_word(len(deeds), word) and len(word) > 0 for word in words])
