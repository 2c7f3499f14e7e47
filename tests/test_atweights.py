"""atweights.py: S6.4 to S6.6."""

import random
import unittest
from fractions import Fraction

from drawndeeds.atweights import face_speeds, full_sum, judge_speeds, speeds_at, telling_weights
from drawndeeds.coefficients import coefficients_of, times_in
from drawndeeds.ends import ends
from drawndeeds.faces import all_faces, face_of_member, members_of
from drawndeeds.heaps import heap
from drawndeeds.ranks import least_rank
from drawndeeds.speeds import times
from drawndeeds.tables import member_table, table_of, trace_of
from tests.bookssupport import (
    EXCHANGE, NONE, ONE, OF_SUMS, Q, SOME, TURNS, W, determinant, least_rank_of, less_from, sums_of_400,
    sums_of_500)
from tests.support import ANYTHING, Case, all_books, heap_of_400

MANY = SOME + all_books(3, 1) + all_books(3, 2)[::23]


def weights_for(chance, many):
    return tuple(chance.choice([0, 1, -1, chance.randrange(-10 ** 6, 10 ** 6 + 1)]) for _ in range(many))


class Speeds(Case):
    def test_examples(self):
        self.gives([((2,), 5), ((0, 1, 2), 10)], face_speeds, Q, (2, 3, 5))
        self.gives(((5, 1), (10, 1)), speeds_at, Q, (2, 3, 5))
        self.gives(None, speeds_at, EXCHANGE, (1,))

    def test_edges(self):
        self.gives([((), 0)], face_speeds, NONE, ())
        self.gives(((0, 3),), speeds_at, NONE, ())
        self.gives(((-1, 1),), speeds_at, ONE, (10 ** 6, -(10 ** 6) - 1))
        self.gives([((0, 1), 0)], face_speeds, TURNS, (4, -4))
        self.gives(((0, 3),), speeds_at, W, (0, 0))
        self.gives(((-2, 1), (0, 1), (2, 1)), speeds_at, W, (2, -2))

    def test_faces(self):
        chance = random.Random(31)
        for book in SOME:
            weights = weights_for(chance, len(book[1]))
            self.gives([(f, sum(weights[k] for k in f)) for f in all_faces(book)], face_speeds, book, weights)

    def test_they_are_the_roots(self):
        chance = random.Random(32)
        for book in MANY + [OF_SUMS]:
            told = times(book)
            weights = weights_for(chance, len(book[1]))
            found = self.gives(speeds_at(book, weights), speeds_at, book, weights)
            self.assertIs(found is None, told is None)
            if told is None:
                continue
            coefficients = coefficients_of(table_of(book, weights))
            self.assertEqual(list(found), sorted(found))
            self.assertEqual(sum(number for _, number in found), book[0])
            self.assertTrue(all(times_in(coefficients, z) == number for z, number in found))
            self.gives(None, judge_speeds, table_of(book, weights), found)
            # At member weights too the determinant is told by the speeds of faces.
            weights = weights_for(chance, len(heap(book)))
            speed = {f: sum(w for m, w in zip(heap(book), weights) if m in members_of(book, f)) for f, _ in told}
            z = Fraction(chance.randrange(-99, 99), 5)
            wanted = Fraction(1)
            for f, number in told:
                wanted *= (z - speed[f]) ** number
            self.assertEqual(determinant(less_from(z, member_table(book, weights))), wanted)

    def test_greater_heaps(self):
        self.assertEqual(sum(number for _, number in speeds_at(sums_of_400(), (1, 2, 3, 4, 5, 6))), 10)
        self.assertEqual(sum(number for _, number in speeds_at(sums_of_500(), (1, 2, 3, 4, 5, 6))), 10)
        self.gives(None, speeds_at, heap_of_400(), (1, 2, 3, 4))


class Telling(Case):
    def test_examples(self):
        self.gives((1, 5, 25), telling_weights, Q)
        self.gives((1, 5), telling_weights, EXCHANGE)
        self.gives(32, full_sum, Q, (1, 5, 25))
        self.gives(12, full_sum, EXCHANGE, (1, 5))
        self.gives(32, trace_of, member_table(Q, (1, 5, 25)))
        self.gives((1,), telling_weights, NONE)
        self.gives(3, full_sum, NONE, (1,))
        self.gives(1, full_sum, ONE, (1,))
        self.gives(-7, full_sum, ONE, (-7,))

    def test_full_sums(self):
        chance = random.Random(33)
        for book in SOME:
            weights = weights_for(chance, len(heap(book)))
            ranks = [least_rank_of(members_of(book, face_of_member(book, m))) for m in heap(book)]
            self.gives(sum(w * r for w, r in zip(weights, ranks)), full_sum, book, weights)
            self.gives(tuple((2 * book[0] + 1) ** k for k in range(len(heap(book)))), telling_weights, book)

    def test_times_exactly_if_the_trace_is_the_full_sum(self):
        for book in MANY + [OF_SUMS, sums_of_400(), heap_of_400()]:
            weights = telling_weights(book)
            same = trace_of(member_table(book, weights)) == full_sum(book, weights)
            self.assertIs(same, times(book) is not None)

    def test_ends_and_ranks(self):
        chance = random.Random(34)
        for book in MANY:
            told = times(book)
            whole = tuple(range(len(book[1])))
            if told is not None:
                self.assertEqual(least_rank(book), len(ends(book)))
                self.assertEqual(dict(told)[whole], len(ends(book)))
                self.assertIs(any(len(set(m)) == 1 for m in heap(book)), len(ends(book)) == 1)
            if whole:
                weights = tuple(chance.randrange(1, 10 ** 6) for _ in whole)
                self.assertEqual(times_in(coefficients_of(table_of(book, weights)), sum(weights)), len(ends(book)))


class JudgeSpeeds(Case):
    TABLE = ((7, 3), (2, 8))

    def test_examples(self):
        self.gives(None, judge_speeds, self.TABLE, ((5, 1), (10, 1)))
        self.gives(("times", 0), judge_speeds, self.TABLE, ((4, 1), (10, 1)))
        self.gives(("times", 1), judge_speeds, self.TABLE, ((5, 1), (10, 2)))
        self.gives(("times", 1), judge_speeds, self.TABLE, ((5, 1), (6, 1), (10, 1)))
        self.gives(("lacks",), judge_speeds, self.TABLE, ((10, 1),))
        self.gives(("lacks",), judge_speeds, self.TABLE, ())
        self.gives(("lacks",), judge_speeds, ((0, 1), (1, 0)), ((1, 1),))
        self.gives(("lacks",), judge_speeds, ((0, 1), (-1, 0)), ())
        self.gives(None, judge_speeds, ((0,),), ((0, 1),))
        self.gives(None, judge_speeds, ((3, 1), (0, 3)), ((3, 2),))
        self.gives(None, judge_speeds, ((10 ** 40, 1), (0, -(10 ** 40))), ((-(10 ** 40), 1), (10 ** 40, 1)))
        self.gives(("times", 0), judge_speeds, self.TABLE, ((10 ** 299, 10 ** 299),))

    def test_order(self):
        self.gives(("order", 1), judge_speeds, self.TABLE, ((10, 1), (5, 1)))
        self.gives(("order", 2), judge_speeds, self.TABLE, ((4, 1), (5, 1), (5, 1), (3, 1)))

    def test_form(self):
        for value in ANYTHING + [((5, 1), (10, 0)), ((5, 1), (10, -1)), ((5, 1), (10, True)), ((5, 1), (False, 1)),
                                 [(5, 1), (10, 1)], ((5, 1), [10, 1]), ((5, 1), (10,)), ((5, 1), (10, 1, 1)),
                                 ((10, 1), (5, 0)), ((5, 1), None), (("5", 1),)]:
            if value != ():
                self.gives(("form",), judge_speeds, self.TABLE, value)


if __name__ == "__main__":
    unittest.main()
