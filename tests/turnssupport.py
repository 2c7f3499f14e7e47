"""Books of the document's part 11, and slow ways to the answers about them."""

import cmath
from fractions import Fraction
from itertools import product as words_of

from drawndeeds.lots import side_by_side
from tests.bookssupport import EXCHANGE, FALLS, OF_SUMS, SOME, SPECIAL, W, put_in, then
from tests.support import all_books, apart_books, deed_of

T = (3, ((1, 0, 2), (0, 2, 1)))
RINGS = (8, ((1, 2, 3, 4, 5, 6, 7, 0), (2, 3, 4, 5, 6, 7, 0, 1)))
# Rings of five and of three places, and letters that put the places of a ring together.
FOUR_RINGS = (8, ((1, 2, 3, 4, 0, 5, 6, 7), (0, 1, 2, 3, 4, 6, 7, 5), (0, 0, 0, 0, 0, 5, 6, 7),
    (0, 1, 2, 3, 4, 5, 5, 5)))


def rings_of_500():
    """A book with rings of ten, of ten, of five and of one."""
    turn = (1, 2, 3, 4, 0, 6, 5, 7)
    twice = then(turn, turn)
    return (8, (turn, then(twice, turn), twice, (7,) * 8))


def turned_of_400():
    """17 places, four letters and 400 members: two rings of five beside a book of 16 members."""
    five = (5, ((1, 2, 3, 4, 0),))
    return apart_books(apart_books(five, five), (7, ((0, 0, 2, 1, 2, 4, 0), (0, 1, 1, 1, 3, 2, 4))))


BOOKS = (SOME + all_books(3, 1) + all_books(3, 2)[::29] + all_books(2, 3)[::5] + SPECIAL
         + [OF_SUMS, FALLS, T, EXCHANGE, RINGS, put_in(4), side_by_side(W, T), side_by_side(EXCHANGE, (2, ((0, 0),)))])


def turned_falls(dice, m, r, g, most=None):
    """A book of places (p, i), i below r, with letters that turn i by what hangs on p, and the turned times told."""
    deeds, told = [], [[] for _ in range(m)]
    for k in range(g):
        deed = [0] * (m * r)
        for p in range(m):
            q, s = dice.randrange(p + 1), dice.randrange(r if most is None else most)
            if dice.random() < 0.5:
                q = p
            if q == p:
                told[p].append((k, s))
            for i in range(r):
                deed[p * r + i] = q * r + (i + s) % r
        deeds.append(tuple(deed))
    book = (m * r, tuple(deeds))
    numbers = {}
    for p in range(m):
        for k in range(r):
            lot = tuple(letter for letter, _ in told[p])
            turns = tuple(Fraction(k * s % r, r) for _, s in told[p])
            numbers[(lot, turns)] = numbers.get((lot, turns), 0) + 1
    return book, numbers


def with_places_moved(dice, book):
    """The same book with its places numbered anew."""
    n, deeds = book
    new = list(range(n))
    dice.shuffle(new)
    moved = []
    for deed in deeds:
        made = [0] * n
        for p, q in enumerate(deed):
            made[new[p]] = new[q]
        moved.append(tuple(made))
    return (n, tuple(moved))


def held_in(book, word):
    deed = deed_of(book, word)
    return len([p for p in range(book[0]) if deed[p] == p])


def tallies_clash(book, longest):
    """Whether two rearranged words, not longer than this, have unlike held."""
    g = len(book[1])
    found = {}
    for t in range(longest + 1):
        for word in words_of(range(g), repeat=t):
            found.setdefault(tuple(sorted(word)), set()).add(held_in(book, word))
    return any(len(told) > 1 for told in found.values())


def slow_rings(book):
    """The rings, by doing each deed until what it did comes again."""
    found = []
    for deed in book[1]:
        row = [tuple(range(book[0]))]
        while True:
            made = tuple(deed[p] for p in row[-1])
            if made in row:
                found.append(len(row) - row.index(made))
                break
            row.append(made)
    return found


def value_at(circles, lot, turns, word):
    """The value of a turn mark at a word, as a number of size 1 or 0."""
    value = 1 + 0j
    for letter in word:
        if letter not in lot:
            return 0j
        value *= cmath.exp(2j * cmath.pi * turns[lot.index(letter)] / circles[letter])
    return value
