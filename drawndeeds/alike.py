"""Alike books: each word holds as many places in the one as in the other."""

from drawndeeds.books import held, idle, is_deed, is_word, product
from drawndeeds.heaps import MOST_MEMBERS, walked, word_to
from drawndeeds.letterlots import held_number
from drawndeeds.lots import side_by_side


def walked_pairs(book, other):
    """Return the walk through the heap of both books side by side, and the list of their pairs.

    Raises UnlikeLetters() if they have not equally many letters, TooMany() if they have more than 2,000 pairs.
    """
    n = book[0]
    walk = walked(side_by_side(book, other), MOST_MEMBERS)
    return walk, [(member[:n], tuple([q - n for q in member[n:]])) for member in walk.members]


def pairs(book, other):
    """Return the list of the pairs of two books; raises UnlikeLetters(), TooMany()."""
    return walked_pairs(book, other)[1]


def hold_equally(pair):
    """Tell whether both deeds of a pair hold equally many places."""
    return len(held(pair[0])) == len(held(pair[1]))


def telling_word(book, other):
    """Return the word that tells two books apart, or None if they are alike; raises UnlikeLetters(), TooMany()."""
    walk, found = walked_pairs(book, other)
    for number, pair in enumerate(found):
        if not hold_equally(pair):
            return word_to(walk, number)
    return None


def are_alike(book, other):
    """Tell whether two books are alike; raises UnlikeLetters(), TooMany()."""
    return all([hold_equally(pair) for pair in pairs(book, other)])


def judge_telling(book, other, value):
    """Return None if value, which may be anything, is a word that tells two books apart, or its first fault.

    Raises UnlikeLetters() if they have not equally many letters.
    """
    both = side_by_side(book, other)
    if not is_word(len(both[1]), value):
        return ("form",)
    number = held_number(book, value)
    if number == held_number(other, value):
        return ("same", number)
    return None


def likeness(book, other):
    """Return the paper of likeness that has the pairs in their order, or None if the books are not alike.

    Raises UnlikeLetters(), TooMany().
    """
    found = pairs(book, other)
    if not all([hold_equally(pair) for pair in found]):
        return None
    return tuple(found)


def judge_likeness(book, other, value):
    """Return None if value, which may be anything, is a paper of likeness, or its first fault.

    Raises UnlikeLetters(), TooMany().
    """
    walked_pairs(book, other)
    if not is_pairs_form(book[0], other[0], value):
        return ("form",)
    among = {pair: True for pair in value}
    if len(among) != len(value):
        return ("form",)
    if (idle(book[0]), idle(other[0])) not in among:
        return ("idle",)
    for k, pair in enumerate(value):
        if not hold_equally(pair):
            return ("held", k)
        for letter, (deed, beside) in enumerate(zip(book[1], other[1])):
            if (product(pair[0], deed), product(pair[1], beside)) not in among:
                return ("open", k, letter)
    return None


def is_pairs_form(n, m, value):
    """Tell whether value, which may be anything, is a tuple of pairs of a deed of n places and one of m."""
    if not isinstance(value, tuple):
        return False
    for pair in value:
        if not isinstance(pair, tuple) or len(pair) != 2 or not is_deed(n, pair[0]) or not is_deed(m, pair[1]):
            return False
    return True
