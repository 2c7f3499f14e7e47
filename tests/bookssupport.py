"""Books of the document's parts 4 to 8, and slow ways to the answers about them, by the document's words alone."""

from fractions import Fraction
from itertools import combinations

from drawndeeds.heaps import heap, least_words
from drawndeeds.lots import side_by_side
from tests.support import E, MIDDLE, SMALL, all_books, apart_books, deed_of, heap_of_400

V = (4, ((1, 1, 3, 3), (2, 3, 2, 3), (3, 3, 3, 3)))
W = (3, ((0, 0, 2), (0, 1, 0)))
EXCHANGE = (2, ((1, 0),))
Q = (2, ((0, 0), (1, 1), (0, 1)))
NONE = (3, ())
ONE = (1, ((0,), (0,)))
TWINS = (3, ((0, 0, 2), (0, 1, 0), (0, 0, 2)))
TURNS = (5, ((1, 2, 3, 4, 0), (0, 1, 2, 4, 3)))
FALLS = (8, ((0, 0, 1, 2, 3, 4, 5, 6), (0, 1, 1, 3, 3, 5, 5, 7), (0, 1, 2, 2, 2, 5, 6, 6)))
OF_SUMS = (8, ((0, 4, 2, 3, 4, 5, 6, 7), (0, 1, 2, 7, 4, 5, 2, 6), (3, 1, 2, 3, 5, 5, 6, 7),
               (0, 1, 2, 3, 4, 5, 4, 7)))


def put_in(g):
    """g letters, each of which leads a place of its own to the last one: a face for each lot of letters."""
    return (g + 1, tuple([tuple([g if p == k else p for p in range(g + 1)]) for k in range(g)]))


SPECIAL = [NONE, ONE, V, W, EXCHANGE, Q, TWINS, put_in(3), (2, ((1, 0), (0, 0))), (4, ((0, 0, 1, 2),)),
           (3, ((0, 0, 1), (0, 1, 1))), (3, ((1, 0, 2), (0, 2, 1))), (3, ((0, 1, 2), (1, 1, 2), (1, 1, 2)))]
FEW = [book for book in SPECIAL + SMALL[::5] + all_books(2, 3)[::7] if len(heap(book)) < 11]
SOME = FEW + [book for book in MIDDLE if len(heap(book)) < 60] + [put_in(4), side_by_side(W, E)]


def lots_of(g):
    """All lots of g letters, in the faces' order."""
    return [lot for many in range(g + 1) for lot in combinations(range(g), many)]


def then(deed, other):
    return tuple([other[p] for p in deed])


def slow_faces(book):
    """The dict of the faces by their lots, each a set of members, by looking at all sets of members."""
    members = heap(book)
    found = {}
    for mask in range(1, 1 << len(members), 2):
        face = {member for k, member in enumerate(members) if mask >> k & 1}
        if all((then(a, b) in face) == (a in face and b in face) for a in members for b in members):
            found[tuple(k for k, deed in enumerate(book[1]) if deed in face)] = face
    return found


def held_of(book, word):
    deed = deed_of(book, word)
    return len([p for p in range(book[0]) if deed[p] == p])


def least_rank_of(deeds):
    return min(len(set(deed)) for deed in deeds)


def unlike_in_lots(book):
    """Whether two words with one lot have unlike held, by looking at what each word makes of each set of letters."""
    found = {}
    row = [(tuple(range(book[0])), frozenset())]
    seen = set(row)
    for deed, lot in row:
        found.setdefault(lot, set()).add(len([p for p in range(book[0]) if deed[p] == p]))
        for k, other in enumerate(book[1]):
            now = (then(deed, other), lot | {k})
            if now not in seen:
                seen.add(now)
                row.append(now)
    return any(len(told) > 1 for told in found.values())


def determinant(rows):
    """The determinant of a square of fractions."""
    rows = [[Fraction(x) for x in row] for row in rows]
    total = Fraction(1)
    for k in range(len(rows)):
        at = [j for j in range(k, len(rows)) if rows[j][k] != 0]
        if not at:
            return Fraction(0)
        if at[0] != k:
            rows[k], rows[at[0]] = rows[at[0]], rows[k]
            total = -total
        total *= rows[k][k]
        for j in range(k + 1, len(rows)):
            part = rows[j][k] / rows[k][k]
            rows[j] = [x - part * y for x, y in zip(rows[j], rows[k])]
    return total


def word_table(book, weights):
    """The table of some words with weights, told by a dict."""
    n = book[0]
    rows = [[Fraction(0)] * n for _ in range(n)]
    for word, weight in weights.items():
        for p, q in enumerate(deed_of(book, word)):
            rows[p][q] += weight
    return rows


def less_from(z, rows):
    """z on the diagonal, less a table."""
    return [[z * (p == q) - x for q, x in enumerate(row)] for p, row in enumerate(rows)]


def some_words(book):
    """The least words of a book, with some more."""
    g = len(book[1])
    return least_words(book) + [(k, k) for k in range(g)] + [(k, 0, k, 0) for k in range(1, g)]


# 20 and 25 members, all speeds being sums.
TWENTY = (5, ((0, 0, 1, 2, 4), (0, 1, 0, 0, 4), (0, 0, 2, 1, 3)))
TWENTY_FIVE = (5, ((0, 1, 2, 1, 3), (0, 0, 2, 3, 4), (0, 1, 0, 3, 2)))


def sums_of_400():
    return apart_books(TWENTY, TWENTY)


def sums_of_500():
    return apart_books(TWENTY, TWENTY_FIVE)


def turns_of_401():
    """400 turns, and one more, since a place that goes as place 0 does is held by no word but ()."""
    n, deeds = heap_of_400()
    return (n + 1, tuple(deed + (deed[0],) for deed in deeds))


def seventeen():
    """Two books of eight places side by side, and one place beside them."""
    return side_by_side(side_by_side(FALLS, (8, tuple(deed[::-1] for deed in FALLS[1]))), (1, ((0,),) * 3))
