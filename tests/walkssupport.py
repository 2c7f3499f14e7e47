"""Books of the document's parts 8 to 10 that are walked on, and slow ways to what walks on them do."""

from fractions import Fraction
from itertools import permutations
from itertools import product as words_of

from drawndeeds.heaps import heap
from drawndeeds.lots import side_by_side
from tests.bookssupport import FALLS, Q, SOME, W, put_in, then
from tests.support import all_books

L = (4, ((0, 2, 3, 3), (0, 0, 1, 3)))
R = (3, ((1, 2, 0), (1, 0, 0)))
S = (4, ((1, 2, 3, 0), (1, 0, 3, 2)))
WHEEL = (4, ((1, 2, 3, 0), (0, 1, 2, 0)))
SWAYING = (4, ((1, 0, 1, 0), (1, 2, 3, 0)))
SLOPE = (3, ((0, 0, 1), (1, 1, 2)))
SEVERAL = (7, ((1, 0, 2, 3, 5, 4, 2), (0, 1, 2, 2, 4, 5, 4)))
ALL_MAPS = (8, ((1, 2, 3, 4, 5, 6, 7, 0), (1, 0, 2, 3, 4, 5, 6, 7), (0, 0, 2, 3, 4, 5, 6, 7)))
EIGHTS = (8, ((1, 2, 3, 4, 5, 6, 7, 0), (0, 1, 2, 3, 4, 5, 6, 0)))
THREE_ENDS = (8, ((0, 2, 1, 3, 4, 0, 1, 6), (0, 2, 1, 4, 3, 6, 3, 5)))
# Which of three places goes on hangs on the letter, so lots of two places are of two kinds.
HALVES = (6, ((1, 2, 0, 4, 5, 3), (0, 1, 2, 4, 3, 5), (3, 4, 5, 0, 1, 2)))


def ring_of(lots, more=0):
    """A ring of so many lots, the first of which has some places more; letters lead unlike ways round it."""
    n = lots + more
    first = tuple([(p + 1) % lots if p < lots else 1 % lots for p in range(n)])
    second = tuple([led if led else (n - 1 if more else 0) for led in first])
    return (n, (first, second))


WALKS = [book for book in SOME + all_books(3, 2)[::43] if len(book[1]) > 0]
WALKS += [L, R, S, WHEEL, SWAYING, SLOPE, SEVERAL, FALLS, THREE_ENDS, HALVES, ring_of(4, 2), ring_of(2, 3)]
SMALL_WALKS = [book for book in WALKS if book[0] < 5 and len(book[1]) < 4 and len(heap(book)) < 60]
NO_LETTERS = [(n, ()) for n in (1, 2, 3, 4, 8)]


def weights_for(chance, book):
    """Some weights, small and great ones."""
    return tuple(chance.choice([1, 2, 3, 10 ** 6, chance.randrange(1, 10 ** 6)]) for _ in book[1])


def pair_of(fraction):
    return (fraction.numerator, fraction.denominator)


def pairs_of(n):
    return [(p, q) for p in range(n) for q in range(p + 1, n)]


def led_apart(deed, pair):
    """The pair to which a deed leads one, None if it leads it together."""
    p, q = sorted([deed[pair[0]], deed[pair[1]]])
    return None if p == q else (p, q)


def come_from(book, p):
    """All places that are come to from a place."""
    found = {p}
    for _ in range(book[0]):
        found |= {deed[q] for deed in book[1] for q in found}
    return found


def words_with_worths(book, weights, t):
    """Each word of t letters, what it does, and its worth."""
    found = [((), tuple(range(book[0])), 1)]
    for _ in range(t):
        found = [(word + (k,), then(deed, book[1][k]), worth * weights[k])
                 for word, deed, worth in found for k in range(len(book[1]))]
    return found


def deeds_with_worths(book, weights, t):
    """The dict of the worths of all words of t letters, by what they do."""
    found = {tuple(range(book[0])): 1}
    for _ in range(t):
        longer = {}
        for deed, worth in found.items():
            for other, weight in zip(book[1], weights):
                made = then(deed, other)
                longer[made] = longer.get(made, 0) + worth * weight
        found = longer
    return found


def answers(rows, sides):
    """The one answer of equations: rows of fractions times the answer are the sides."""
    rows = [[Fraction(x) for x in row] + [Fraction(side)] for row, side in zip(rows, sides)]
    for k in range(len(rows)):
        at = next(j for j in range(k, len(rows)) if rows[j][k] != 0)
        rows[k], rows[at] = rows[at], rows[k]
        rows[k] = [x / rows[k][k] for x in rows[k]]
        for j in range(len(rows)):
            if j != k and rows[j][k] != 0:
                rows[j] = [x - rows[j][k] * y for x, y in zip(rows[j], rows[k])]
    return [row[-1] for row in rows]


def means_of(states, led, weights):
    """The means of some states until another one is come to, by equations; led(state, letter) tells where it goes."""
    total = sum(weights)
    rows = []
    for state in states:
        row = [Fraction(0)] * len(states)
        row[states.index(state)] += total
        for k, weight in enumerate(weights):
            onward = led(state, k)
            if onward in states:
                row[states.index(onward)] -= weight
        rows.append(row)
    return dict(zip(states, answers(rows, [total] * len(states)))) if states else {}


def letters_words(g, longest):
    """All words of g letters that are not longer than this, in their order."""
    return [word for t in range(longest + 1) for word in words_of(range(g), repeat=t)]


def front_first(items):
    """Rows of some items as places; each letter puts one item ahead of all others."""
    rows = list(permutations(range(items)))
    deeds = [tuple(rows.index((k,) + tuple(x for x in row if x != k)) for row in rows) for k in range(items)]
    return (len(rows), tuple(deeds))


def constants(n):
    """A book in which each letter leads all to a place of its own."""
    return (n, tuple((k,) * n for k in range(n)))


def fades_slowly(book):
    """Whether x b x is b x for each member b and letter's deed x."""
    return all(then(then(x, b), x) == then(b, x) for b in heap(book) for x in book[1])


FADING = [book for book in SOME + all_books(3, 2)[::7] if fades_slowly(book)]
FADING += [front_first(3), constants(5), put_in(5), side_by_side(Q, constants(3)), side_by_side(W, put_in(2)), (3, ())]
TO_ONE = [book for book in FADING if book[1] and any(len(set(member)) == 1 for member in heap(book))]
