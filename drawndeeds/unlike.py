"""Two words with one lot that hold unlike numbers of places: they show that speeds are no sums."""

from drawndeeds.books import is_word_pair
from drawndeeds.heaps import walked
from drawndeeds.letterlots import MOST_MEMBERS, first_unlike, held_number, held_numbers, lot_of


def unlike_words(book):
    """Return a pair of words with one lot and unlike held, or None if there is none.

    Raises TooMany() if the heap has more than 400 members.
    """
    walk = walked(book, MOST_MEMBERS)
    return first_unlike(walk, held_numbers(walk))


def judge_unlike(book, value):
    """Return None if value, which may be anything, is a pair of words with one lot and unlike held, or its fault."""
    if not is_word_pair(len(book[1]), value):
        return ("form",)
    if lot_of(value[0]) != lot_of(value[1]):
        return ("lot",)
    if held_number(book, value[0]) == held_number(book, value[1]):
        return ("held",)
    return None
