"""needs.py: S10.1 and S10.2."""

import random
import unittest
from fractions import Fraction

from drawndeeds.atweights import face_speeds
from drawndeeds.faces import all_faces, face_of_word, least_face
from drawndeeds.lattice import signed
from drawndeeds.needs import mean_need, need_chances, need_of_whole
from tests.bookssupport import EXCHANGE, FALLS, ONE, OF_SUMS, Q, V, put_in, sums_of_400
from tests.support import Case, heap_of_400
from tests.walkssupport import WALKS, means_of, pair_of, weights_for, words_with_worths

BOOKS = WALKS + [V, put_in(5), OF_SUMS]


def within(f, g):
    return set(f) <= set(g)


class Chances(Case):
    def test_examples(self):
        self.gives([((2,), (1, 4)), ((0, 1, 2), (3, 4))], need_chances, Q, (2, 3, 5), 2)
        self.gives((3, 4), need_of_whole, Q, (2, 3, 5), 2)
        self.gives((2, 1), mean_need, Q, (2, 3, 5))

    def test_edges(self):
        # With no draw just the first face is needed; later on none that lacks what is drawn.
        self.gives([((2,), (1, 1)), ((0, 1, 2), (0, 1))], need_chances, Q, (2, 3, 5), 0)
        self.gives([((), (1, 1)), ((0,), (0, 1)), ((1,), (0, 1)), ((0, 1, 2), (0, 1))], need_chances, V, (1, 2, 3), 0)
        self.gives([((), (0, 1)), ((0,), (1, 6)), ((1,), (1, 3)), ((0, 1, 2), (1, 2))], need_chances, V, (1, 2, 3), 1)
        self.gives((0, 1), need_of_whole, V, (1, 2, 3), 0)
        # The whole is the only face.
        for book in (ONE, EXCHANGE, heap_of_400()):
            weights = (10 ** 6,) * len(book[1])
            self.gives([(tuple(range(len(book[1]))), (1, 1))], need_chances, book, weights, 0)
            self.gives([(tuple(range(len(book[1]))), (1, 1))], need_chances, book, weights, 60)
            self.gives((1, 1), need_of_whole, book, weights, 60)
            self.gives((0, 1), mean_need, book, weights)
        # Six letters of one weight, each of which is needed: the mean of draws until each one has come.
        self.gives((147, 10), mean_need, put_in(6), (1,) * 6)
        self.gives((147, 10), mean_need, put_in(6), (10 ** 6,) * 6)
        self.gives((0, 1), need_of_whole, put_in(6), (1,) * 6, 5)
        self.gives((5, 324), need_of_whole, put_in(6), (1,) * 6, 6)
        found = need_chances(sums_of_400(), tuple(range(1, 7)), 60)
        self.assertEqual([f for f, _ in found], all_faces(sums_of_400()))
        self.assertEqual(sum(Fraction(*x) for _, x in found), 1)

    def test_by_all_words(self):
        chance = random.Random(121)
        for book in BOOKS:
            weights = weights_for(chance, book)
            total = sum(weights)
            for t in range(5 if len(book[1]) < 4 else 4):
                sums = {f: 0 for f in all_faces(book)}
                for word, _, worth in words_with_worths(book, weights, t):
                    sums[face_of_word(book, word)] += worth
                wanted = [(f, pair_of(Fraction(worth, total ** t))) for f, worth in sums.items()]
                self.gives(wanted, need_chances, book, weights, t)
                self.gives(wanted[-1][1], need_of_whole, book, weights, t)

    def test_what_holds(self):
        chance = random.Random(122)
        for book in BOOKS + [FALLS]:
            weights = weights_for(chance, book)
            total = sum(weights)
            faces = all_faces(book)
            speeds = dict(face_speeds(book, weights))
            signs = {(f, g): signed(book, f, g) for f in faces for g in faces}
            before = Fraction(0)
            for t in (0, 1, 2, 7, 60):
                told = {f: Fraction(*x) for f, x in need_chances(book, weights, t)}
                for g in faces:
                    self.assertEqual(sum(told[f] for f in faces if within(f, g)), Fraction(speeds[g], total) ** t)
                    self.assertEqual(told[g], sum(
                        signs[(f, g)] * Fraction(speeds[f], total) ** t for f in faces if within(f, g)))
                whole = Fraction(*need_of_whole(book, weights, t))
                self.assertEqual(whole, told[faces[-1]])
                self.assertLessEqual(before, whole)
                before = whole

    def test_mean_need(self):
        chance = random.Random(123)
        for book in BOOKS:
            weights = weights_for(chance, book)
            total = sum(weights)
            faces = all_faces(book)
            states = faces[:-1]
            wanted = means_of(states, lambda f, k: least_face(book, tuple(sorted({*f, k}))), weights)
            self.gives(pair_of(wanted[faces[0]]) if states else (0, 1), mean_need, book, weights)
            speeds = dict(face_speeds(book, weights))
            self.assertEqual(Fraction(*mean_need(book, weights)), -sum(
                signed(book, f, faces[-1]) * Fraction(total, total - speeds[f]) for f in states))

    def test_the_mean_need_adds_up_chances(self):
        for book in BOOKS[::3]:
            weights = tuple(range(3, len(book[1]) + 3))
            mean = Fraction(*mean_need(book, weights))
            parts = [1 - Fraction(*need_of_whole(book, weights, t)) for t in range(60)]
            self.assertLessEqual(sum(parts), mean)
            if mean < 6:
                self.assertLess(mean - sum(parts), Fraction(1, 20))
                self.assertGreater(Fraction(*need_of_whole(book, weights, 60)), Fraction(99, 100))


if __name__ == "__main__":
    unittest.main()
