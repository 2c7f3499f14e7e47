"""Pairs of places: words that lead them together, and still lots, which show that no word does."""

from drawndeeds.books import is_word, led_to
from drawndeeds.ranks import all_pairs, is_pair, led_pair, meeting_letters, word_from


def lead_pair(book, word, pair):
    """Return the pair to which a word leads a pair, or None if it leads it together."""
    return led_pair([led_to(book, word, p) for p in pair], (0, 1))


def first_meeting(book, pair):
    """Return the first meeting word of a pair, or None if it does not meet."""
    letters = meeting_letters(book)
    if pair not in letters:
        return None
    return word_from(book, letters, pair)


def never_met(book):
    """Return the ascending tuple of all pairs that do not meet."""
    letters = meeting_letters(book)
    return tuple([pair for pair in all_pairs(list(range(book[0]))) if pair not in letters])


def judge_meeting(book, pair, value):
    """Return None if value, which may be anything, is a meeting word of a pair, or its first fault."""
    if not is_word(len(book[1]), value):
        return ("form",)
    led = lead_pair(book, value, pair)
    if led is None:
        return None
    return ("apart",) + led


def judge_still(book, pair, value):
    """Return None if value, which may be anything, is a still lot that has a pair, or its first fault."""
    if not isinstance(value, tuple) or not all([is_pair(book[0], member) for member in value]):
        return ("form",)
    k = first_not_behind(value)
    if k is not None:
        return ("order", k)
    if pair not in value:
        return ("lacks",)
    among = {member: True for member in value}
    for k, member in enumerate(value):
        for letter, deed in enumerate(book[1]):
            led = led_pair(deed, member)
            if led is None:
                return ("together", k, letter)
            if led not in among:
                return ("out", k, letter)
    return None


def first_not_behind(row):
    """Return the first number of a member of a row that is not behind the one ahead of it, or None."""
    for k in range(1, len(row)):
        if row[k] <= row[k - 1]:
            return k
    return None
