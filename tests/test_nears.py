"""nears.py: S10.7."""

import random
import unittest
from fractions import Fraction

from drawndeeds.ends import ends
from drawndeeds.faces import face_of_word
from drawndeeds.nears import distance, whole_chances
from drawndeeds.needs import need_of_whole
from drawndeeds.resting import end_share
from tests.bookssupport import EXCHANGE, ONE, Q, W, put_in
from tests.support import Case, heap_of_400
from tests.walkssupport import (
    FADING, L, R, SMALL_WALKS, SWAYING, TO_ONE, WALKS, constants, deeds_with_worths, front_first, pair_of, weights_for,
    words_with_worths)


class WholeChances(Case):
    def test_examples(self):
        self.gives(((1, 5), (3, 10)), whole_chances, Q, (2, 3, 5), 1)

    def test_edges(self):
        self.gives(((0, 1), (0, 1)), whole_chances, Q, (2, 3, 5), 0)
        self.gives(((1, 1),), whole_chances, ONE, (10 ** 6, 1), 0)
        self.gives(((1, 1),), whole_chances, ONE, (10 ** 6, 1), 30)
        self.gives(None, whole_chances, EXCHANGE, (1,), 30)
        self.gives(None, whole_chances, heap_of_400(), (1,) * 4, 3)
        self.gives(None, whole_chances, (4, ((0, 0, 2, 2),)), (1,), 3)
        self.gives(((2, 5), (3, 5)), whole_chances, constants(2), (2, 3), 1)
        self.gives(((2, 5), (3, 5)), whole_chances, constants(2), (2, 3), 30)
        # The sixth draw is the first with which all six letters can have come.
        self.gives(((0, 1),) * 7, whole_chances, put_in(6), (1,) * 6, 5)
        self.gives(((0, 1),) * 6 + ((5, 324),), whole_chances, put_in(6), (1,) * 6, 6)

    def test_by_all_words(self):
        chance = random.Random(151)
        for book in FADING + WALKS[::3]:
            if len(book[1]) == 0:
                continue
            weights = weights_for(chance, book)
            whole = tuple(range(len(book[1])))
            for t in range(4):
                wanted = None
                if book in TO_ONE:
                    sums = [0] * book[0]
                    for word, deed, worth in words_with_worths(book, weights, t):
                        if face_of_word(book, word) == whole:
                            self.assertEqual(len(set(deed)), 1)
                            sums[deed[0]] += worth
                    wanted = tuple(pair_of(Fraction(x, sum(weights) ** t)) for x in sums)
                self.gives(wanted, whole_chances, book, weights, t)

    def test_what_holds(self):
        chance = random.Random(152)
        for book in TO_ONE:
            weights = weights_for(chance, book)
            share = [Fraction(*x) for x in end_share(book, weights, 0)]
            before = [Fraction(0)] * book[0]
            for t in list(range(6)) + [30]:
                now = [Fraction(*x) for x in whole_chances(book, weights, t)]
                self.assertTrue(all(x <= y <= z for x, y, z in zip(before, now, share)))
                self.assertEqual(pair_of(sum(now)), need_of_whole(book, weights, t))
                before = now


class Distances(Case):
    def test_examples(self):
        self.gives((3, 10), distance, Q, (2, 3, 5), 0, 1)

    def test_edges(self):
        self.gives((3, 5), distance, Q, (2, 3, 5), 0, 0)
        self.gives((0, 1), distance, ONE, (1, 2), 0, 0)
        self.gives((0, 1), distance, ONE, (1, 2), 0, 30)
        self.gives((1, 2), distance, EXCHANGE, (10 ** 6,), 1, 30)
        self.gives(None, distance, L, (1, 1), 1, 3)
        self.gives((0, 1), distance, constants(5), (1, 2, 3, 4, 5), 2, 1)
        self.gives((1, 1), distance, W, (1, 1), 1, 0)
        self.gives((1, 2), distance, W, (1, 1), 1, 1)
        self.gives(pair_of(Fraction(1, 2 ** 30)), distance, W, (1, 1), 1, 30)
        self.gives((0, 1), distance, W, (1, 1), 0, 30)

    def test_by_words(self):
        chance = random.Random(153)
        for book in WALKS + TO_ONE:
            weights = weights_for(chance, book)
            if len(ends(book)) > 1:
                self.gives(None, distance, book, weights, 0, 3)
                continue
            share = [Fraction(*x) for x in end_share(book, weights, 0)]
            for t in (0, 1, 2, 5):
                total = sum(weights) ** t
                row = deeds_with_worths(book, weights, t)
                for p in range(book[0]):
                    came = [sum(worth for deed, worth in row.items() if deed[p] == q) for q in range(book[0])]
                    wanted = sum(abs(Fraction(x, total) - y) for x, y in zip(came, share)) / 2
                    self.gives(pair_of(wanted), distance, book, weights, p, t)

    def test_what_holds(self):
        chance = random.Random(154)
        for book in TO_ONE + [front_first(3)]:
            weights = weights_for(chance, book)
            for t in (0, 1, 2, 3, 7, 30):
                rest = 1 - Fraction(*need_of_whole(book, weights, t))
                for p in range(book[0]):
                    self.assertLessEqual(Fraction(*distance(book, weights, p, t)), rest)

    def test_books_that_are_not_fading(self):
        found = [distance(book, (1,) * len(book[1]), 0, 30) for book in (R, SWAYING, EXCHANGE)]
        self.assertTrue(all(x is not None for x in found))
        # The end of the second and the third book is walked round, so the start is never forgotten.
        self.assertLess(Fraction(*found[0]), Fraction(1, 100))
        self.assertEqual(found[2], (1, 2))
        for book in SMALL_WALKS:
            self.assertIs(distance(book, (1,) * len(book[1]), 0, 30) is None, len(ends(book)) > 1)


if __name__ == "__main__":
    unittest.main()
