"""Fading books: what was done before and is done anew counts no more."""

from drawndeeds.atweights import face_speeds
from drawndeeds.books import done, is_word, product
from drawndeeds.heaps import walked, word_to
from drawndeeds.lumps import bound
from drawndeeds.tables import idle_table, multiplied, table_of
from drawndeeds.words import is_below


def is_fading(book):
    """Tell whether a book is fading."""
    return first_anew(walked(book)) is None


def first_anew(walk):
    """Return the first pair of a member's number and a letter that shows that a book is not fading, or None."""
    right = walk.right
    for number, row in enumerate(walk.left):
        for letter, led in enumerate(row):
            if right[led][letter] != right[number][letter]:
                return (number, letter)
    return None


def fading_paper(book):
    """Return the fading paper of the first member and the first letter that have one, or None if the book is fading."""
    walk = walked(book)
    found = first_anew(walk)
    if found is None:
        return None
    return (word_to(walk, found[0]), found[1])


def judge_fading_paper(book, value):
    """Return None if value, which may be anything, is a fading paper, or its first fault."""
    g = len(book[1])
    if not isinstance(value, tuple) or len(value) != 2 or not is_word(g, value[0]) or not is_below(value[1], g):
        return ("form",)
    deed = book[1][value[1]]
    behind = product(done(book, value[0]), deed)
    if product(deed, behind) == behind:
        return ("same",)
    return None


def face_product(book, weights):
    """Return the face product of a book at weights, which may be any integers."""
    table = table_of(book, weights)
    made = idle_table(book[0])
    for _, speed in face_speeds(book, weights):
        made = multiplied(made, less_speed(table, speed))
    return made


def less_speed(table, speed):
    """Return a table less a speed at each (p, p)."""
    return tuple([row[:p] + (row[p] - speed,) + row[p + 1:] for p, row in enumerate(table)])


def clumps(book):
    """Return the ascending tuple of the clumps of a book."""
    return bound(book[0], (), [(p, deed[p]) for deed in book[1] for p in range(book[0])])
