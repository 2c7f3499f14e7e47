"""resting.py: S8.3 and S8.4."""

import random
import unittest
from fractions import Fraction
from itertools import product as choices_of

from drawndeeds.ends import ends
from drawndeeds.errors import TooMany
from drawndeeds.resting import does_rest, end_share, end_shares, tree_sum, trees_into
from tests.bookssupport import EXCHANGE, FALLS, ONE, OF_SUMS, SOME
from tests.support import Case, all_books, heap_of_5040
from tests.test_ends import L, R, SEVERAL
from tests.test_keptlots import ALL_MAPS, SQUARE

BOOKS = [book for book in SOME + all_books(3, 2)[::61] + [SQUARE, L, R, SEVERAL, FALLS] if len(book[1]) > 0]


def weights_for(chance, book):
    return tuple(chance.choice([1, 2, 3, 10 ** 6, chance.randrange(1, 10 ** 6)]) for _ in book[1])


def rests(book, weights, standing):
    total = sum(weights)
    for q in range(book[0]):
        come = sum(weight * Fraction(*standing[p]) for weight, deed in zip(weights, book[1])
                   for p in range(book[0]) if deed[p] == q)
        if come != total * Fraction(*standing[q]):
            return False
    return True


def slow_trees(book, p):
    """All trees into a place, by looking at all choices of letters."""
    places = [q for lot in ends(book) if p in lot for q in lot if q != p]
    found = []
    for letters in choices_of(range(len(book[1])), repeat=len(places)):
        told = dict(zip(places, letters))
        for q in places:
            for _ in places:
                if q != p:
                    q = book[1][told[q]][q]
            if q != p:
                break
        else:
            found.append(tuple(told.items()))
    return found


class Standings(Case):
    def test_does_rest(self):
        self.gives(True, does_rest, R, (1, 1), ((2, 5), (2, 5), (1, 5)))
        self.gives(True, does_rest, R, (1, 1), ((-2, 1), (-2, 1), (-1, 1)))
        self.gives(True, does_rest, R, (1, 1), ((0, 1), (0, 1), (0, 1)))
        self.gives(False, does_rest, R, (1, 1), ((1, 3), (1, 3), (1, 3)))
        self.gives(True, does_rest, ONE, (3, 10 ** 6), ((7, 9),))
        great = 10 ** 60 - 1
        self.gives(True, does_rest, R, (1, 1), ((-2 * 10 ** 58, great), (-2 * 10 ** 58, great), (-(10 ** 58), great)))
        self.gives(False, does_rest, R, (1, 1), ((2, 5), (2, 5), (10 ** 59, 5 * 10 ** 59 - 1)))

    def test_by_fractions(self):
        chance = random.Random(81)
        for book in BOOKS:
            weights = weights_for(chance, book)
            for _ in range(4):
                standing = tuple(Fraction(chance.randrange(-3, 4), chance.randrange(1, 4)) for _ in range(book[0]))
                standing = tuple((x.numerator, x.denominator) for x in standing)
                self.gives(rests(book, weights, standing), does_rest, book, weights, standing)


class Shares(Case):
    def test_examples(self):
        self.gives(((2, 5), (2, 5), (1, 5)), end_share, R, (1, 1), 0)
        self.gives((((2, 5), (2, 5), (1, 5)),), end_shares, R, (1, 1))
        self.gives((((1, 1), (0, 1), (0, 1), (0, 1)), ((0, 1), (0, 1), (0, 1), (1, 1))), end_shares, L, (1, 2))
        self.gives((((1, 1),),), end_shares, ONE, (5, 7))
        self.gives(((1, 2), (1, 2)), end_share, EXCHANGE, (10 ** 6,), 0)

    def test_what_holds(self):
        chance = random.Random(82)
        for book in BOOKS + [OF_SUMS, ALL_MAPS, heap_of_5040()]:
            weights = weights_for(chance, book)
            found = self.gives(end_shares(book, weights), end_shares, book, weights)
            self.assertEqual(len(found), len(ends(book)))
            for k, lot in enumerate(ends(book)):
                share = self.gives(found[k], end_share, book, weights, k)
                self.assertTrue(all(Fraction(*x).denominator == x[1] and x[1] >= 1 for x in share))
                self.assertEqual(sum(Fraction(*x) for x in share), 1)
                self.assertTrue(all((x[0] > 0) == (p in lot) for p, x in enumerate(share)))
                self.assertTrue(rests(book, weights, share))
                self.gives(True, does_rest, book, weights, share)
                sums = {p: tree_sum(book, weights, p) for p in lot}
                self.assertEqual([Fraction(*share[p]) for p in lot],
                                 [Fraction(sums[p], sum(sums.values())) for p in lot])

    def test_sums_of_multiples_rest_and_no_others(self):
        chance = random.Random(83)
        for book in BOOKS:
            weights = weights_for(chance, book)
            shares = end_shares(book, weights)
            parts = [Fraction(chance.randrange(-9, 9), chance.randrange(1, 5)) for _ in shares]
            made = [sum(part * Fraction(*share[p]) for part, share in zip(parts, shares)) for p in range(book[0])]
            self.gives(True, does_rest, book, weights, tuple((x.numerator, x.denominator) for x in made))
            for p in range(book[0]):
                now = list(made)
                now[p] += 1
                only = any(lot == (p,) for lot in ends(book))
                self.gives(only, does_rest, book, weights, tuple((x.numerator, x.denominator) for x in now))


class Trees(Case):
    def test_examples(self):
        self.gives(2, tree_sum, R, (1, 1), 2)
        self.gives(4, tree_sum, R, (1, 1), 0)
        self.gives([((0, 0), (1, 0)), ((0, 1), (1, 0))], trees_into, R, 2)
        self.gives([()], trees_into, ONE, 0)
        self.gives(1, tree_sum, ONE, (3, 4), 0)
        self.gives([()], trees_into, L, 3)
        self.gives(1, tree_sum, L, (10 ** 6, 10 ** 6), 0)

    def test_by_all_choices(self):
        chance = random.Random(84)
        for book in [book for book in BOOKS if book[0] < 6]:
            weights = weights_for(chance, book)
            for lot in ends(book):
                for p in lot:
                    wanted = slow_trees(book, p)
                    self.gives(wanted, trees_into, book, p)
                    total = 0
                    for tree in wanted:
                        worth = 1
                        for _, letter in tree:
                            worth *= weights[letter]
                        total += worth
                    self.gives(total, tree_sum, book, weights, p)

    def test_six_places(self):
        chance = random.Random(85)
        for _ in range(4):
            book = (6, tuple(tuple(chance.randrange(6) for _ in range(6)) for _ in range(3)))
            for lot in ends(book):
                for p in lot:
                    self.gives(slow_trees(book, p), trees_into, book, p)

    def test_just_2000(self):
        # Each place but 0 has so many letters to the place ahead of it: 5 * 5 * 5 * 4 * 4 trees into 0.
        deeds = []
        for letter in range(6):
            deeds.append((5,) + tuple(p - 1 if letter < many else p for p, many in zip(range(1, 6), (5, 5, 5, 4, 4))))
        book = (6, tuple(deeds))
        self.assertEqual(tree_sum(book, (1,) * 6, 0), 2000)
        found = trees_into(book, 0)
        self.assertEqual(len(found), 2000)
        self.assertEqual(found, sorted(found))
        self.assertEqual(len(set(found)), 2000)
        self.gives(found[:3], lambda *given: trees_into(*given)[:3], book, 0)
        # One letter leads one place more on.
        more = (6, tuple(deeds[:4]) + ((5, 0, 1, 2, 3, 4),) + tuple(deeds[5:]))
        self.assertGreater(tree_sum(more, (1,) * 6, 0), 2000)
        self.refused(TooMany, {}, trees_into, more, 0)
        book = (7, ((1, 3, 2, 2, 2, 1, 1), (4, 2, 3, 1, 4, 6, 1), (5, 4, 3, 1, 0, 4, 3), (5, 2, 2, 5, 6, 6, 1),
                    (6, 3, 3, 4, 6, 2, 6)))
        self.gives(2001, tree_sum, book, (1,) * 5, 6)
        self.refused(TooMany, {}, trees_into, book, 6)
        self.refused(TooMany, {}, trees_into, (8, ((1, 2, 3, 4, 5, 6, 7, 0),) * 6), 3)
        self.gives(6 ** 7, tree_sum, (8, ((1, 2, 3, 4, 5, 6, 7, 0),) * 6), (1,) * 6, 3)
        self.gives((6 * 10 ** 6) ** 7, tree_sum, (8, ((1, 2, 3, 4, 5, 6, 7, 0),) * 6), (10 ** 6,) * 6, 3)


if __name__ == "__main__":
    unittest.main()
