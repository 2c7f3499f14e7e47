"""lumps.py: S7.7 and S7.8."""

import random
import unittest
from fractions import Fraction

from drawndeeds.lumps import common, is_kept_parting, joined, kept_partings, kept_with, lumped
from drawndeeds.powers import settled_members
from drawndeeds.heaps import least_word
from drawndeeds.speeds import times
from tests.bookssupport import (
    EXCHANGE, FALLS, NONE, ONE, OF_SUMS, SOME, determinant, held_of, less_from, some_words, word_table)
from tests.support import ANYTHING, Case
from tests.test_alike import FALL
from tests.test_keptlots import ALL_MAPS, SQUARE

CROWD = [book for book in SOME + [SQUARE] if book[0] < 6]


def partings_of(n):
    """All partings of n places."""
    rows = [[]]
    for p in range(n):
        more = []
        for lots in rows:
            more += [lots[:k] + [lots[k] + (p,)] + lots[k + 1:] for k in range(len(lots))] + [lots + [(p,)]]
        rows = more
    return sorted(tuple(lots) for lots in rows)


def kept(book, parting):
    return all(any({deed[p] for p in lot} <= set(other) for other in parting) for deed in book[1] for lot in parting)


def finer(one, other):
    return all(any(set(lot) <= set(great) for great in other) for lot in one)


class Partings(Case):
    def test_examples(self):
        self.gives(((0, 1), (2,), (3,)), kept_with, SQUARE, 0, 1)
        self.gives((2, ((0, 1), (1, 0))), lumped, SQUARE, ((0, 1), (2, 3)))

    def test_edges(self):
        self.gives(partings_of(3), kept_partings, NONE)
        self.gives([((0,),)], kept_partings, ONE)
        self.gives([((0,), (1,)), ((0, 1),)], kept_partings, EXCHANGE)
        self.gives(((0,), (1,), (2,)), kept_with, NONE, 1, 1)
        self.gives(((0,), (1, 2)), kept_with, NONE, 2, 1)
        self.gives((1, ()), lumped, NONE, ((0, 1, 2),))
        self.gives((3, ()), lumped, NONE, ((0,), (1,), (2,)))
        self.gives([((0,), (1,), (2,), (3,), (4,), (5,), (6,), (7,)), (tuple(range(8)),)], kept_partings, ALL_MAPS)

    def test_eight_places(self):
        wanted = partings_of(8)
        self.assertEqual(len(wanted), 4140)
        self.assertEqual(kept_partings((8, ())), wanted)
        self.assertEqual(kept_partings((8, (tuple(range(8)),) * 5 + ((3,) * 8,))), wanted)
        for book in (FALLS, OF_SUMS, (8, ((1, 2, 3, 4, 5, 6, 7, 0),)), (8, ((0, 0, 1, 2, 3, 4, 5, 6),))):
            self.gives([parting for parting in wanted if kept(book, parting)], kept_partings, book)

    def test_by_all_partings(self):
        for book in CROWD:
            told = partings_of(book[0])
            wanted = [parting for parting in told if kept(book, parting)]
            self.gives(wanted, kept_partings, book)
            for parting in told:
                self.assertIs(is_kept_parting(book, parting), parting in wanted)

    def test_no_kept_partings(self):
        for value in ANYTHING + [((0, 1),), ((0, 1), (2, 2)), ((0, 1), [2]), [(0, 1), (2,)], ((2,), (0, 1)),
                                 ((0, 1), (1, 2)), ((0, 1), (), (2,)), ((0, True), (2,)), ((1, 0), (2,)),
                                 ((0, 1), (3,)), ((0, 1), (2,), (3,)), ((0, 2), (1,)), ((0, 1), 2), ((0,), (1, 2), None)]:
            self.gives(False, is_kept_parting, (3, ((0, 0, 1),)), value)
        for parting in (((0, 1), (2,)), ((0,), (1,), (2,)), ((0, 1, 2),)):
            self.gives(True, is_kept_parting, (3, ((0, 0, 1),)), parting)
        self.gives(False, is_kept_parting, (3, ((0, 0, 1),)), ((0,), (1, 2)) + ((),))

    def test_finest(self):
        for book in CROWD:
            told = kept_partings(book)
            for p in range(book[0]):
                for q in range(book[0]):
                    among = [parting for parting in told if any(p in lot and q in lot for lot in parting)]
                    found = self.gives(kept_with(book, p, q), kept_with, book, p, q)
                    self.assertIn(found, among)
                    self.assertTrue(all(finer(found, parting) for parting in among))

    def test_joined_and_common(self):
        for book in CROWD:
            told = kept_partings(book)
            for one in told:
                for other in told[::3]:
                    both = self.gives(joined(book, one, other), joined, book, one, other)
                    self.assertIn(both, told)
                    above = [parting for parting in told if finer(one, parting) and finer(other, parting)]
                    self.assertTrue(both in above and all(finer(both, parting) for parting in above))
                    where = {p: (k, j) for k, lot in enumerate(one) for j, more in enumerate(other)
                             for p in lot if p in more}
                    wanted = sorted(tuple(q for q in where if where[q] == where[p]) for p in where)
                    wanted = tuple(sorted({tuple(sorted(lot)) for lot in wanted}))
                    self.gives(wanted, common, book, one, other)
                    self.assertIn(wanted, told)


class Lumps(Case):
    def test_books(self):
        for book in CROWD:
            for parting in kept_partings(book):
                place = {p: k for k, lot in enumerate(parting) for p in lot}
                wanted = (len(parting), tuple(tuple(place[deed[lot[-1]]] for lot in parting) for deed in book[1]))
                self.gives(wanted, lumped, book, parting)

    def test_determinants_divide(self):
        # At roots of the lumps' determinant that of the book is 0; here by whole numbers at many z.
        chance = random.Random(61)
        for book in CROWD[::3] + [FALL, SQUARE]:
            words = some_words(book)[:8]
            weights = {word: Fraction(chance.randrange(-5, 6)) for word in words}
            for parting in kept_partings(book)[:5]:
                lumps = lumped(book, parting)
                for z in range(100, 130):
                    one = determinant(less_from(Fraction(z), word_table(lumps, weights)))
                    whole = determinant(less_from(Fraction(z), word_table(book, weights)))
                    if one != 0:
                        self.assertEqual((whole / one).denominator, 1)

    def test_what_holds(self):
        for book in CROWD:
            told = times(book)
            for parting in kept_partings(book):
                lumps = lumped(book, parting)
                for m in settled_members(book):
                    word = least_word(book, m)
                    self.assertLessEqual(held_of(lumps, word), held_of(book, word))
                if told is not None:
                    more = times(lumps)
                    self.assertIsNotNone(more)
                    self.assertTrue(all(number <= dict(told).get(lot, 0) for lot, number in more))


if __name__ == "__main__":
    unittest.main()
