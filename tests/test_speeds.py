"""speeds.py: S5.1, S5.3, and S5.6 to S5.8."""

import random
import unittest
from fractions import Fraction
from itertools import product as rows_of

from drawndeeds.books import rank
from drawndeeds.errors import TooMany, UnlikeLetters
from drawndeeds.faces import all_faces, face_of_member, members_of
from drawndeeds.heaps import heap
from drawndeeds.lots import cut, side_by_side
from drawndeeds.powers import lead_and_ring, power
from drawndeeds.speeds import judge_times, times, times_cut, times_together
from drawndeeds.triangles import triangle
from tests.bookssupport import (
    EXCHANGE, FEW, NONE, ONE, OF_SUMS, Q, SOME, TWINS, V, W, determinant, held_of, least_rank_of, less_from, lots_of,
    put_in, some_words, sums_of_400, sums_of_500, then, turns_of_401, unlike_in_lots, word_table)
from tests.support import ANYTHING, Case, all_books, heap_of_400, heap_of_5040, words_up_to

OF_W = (((0,), 1), ((0, 1), 1), ((1,), 1))


def told_by(told, lot):
    """The sum of the numbers of the pairs whose lots have all letters of a lot."""
    return sum(number for other, number in told if set(lot) <= set(other))


def first_road(book):
    """What the first of the three roads tells for each lot."""
    lots = sorted(lots_of(len(book[1])))
    return [(lot, sum((-1) ** (len(more) - len(lot)) * held_of(book, more) for more in lots if set(lot) <= set(more)))
            for lot in lots]


def slow_times(book):
    """The times by the first of the three roads, or None."""
    if unlike_in_lots(book):
        return None
    return tuple((lot, number) for lot, number in first_road(book) if number)


def first_wrong(book, told):
    """The first word whose held is not as told, by looking at all short words."""
    longest = 7 if len(book[1]) < 3 else 4
    for word in words_up_to(len(book[1]), longest):
        if held_of(book, word) != told_by(told, set(word)):
            return word
    return None


class Times(Case):
    def test_examples(self):
        self.gives(OF_W, times, W)
        self.gives(None, times, EXCHANGE)
        self.gives((((0, 1, 2), 1), ((2,), 1)), times, Q)
        self.gives((((), 3),), times, NONE)
        self.gives((((0, 1), 1),), times, ONE)
        self.gives((((0, 1, 2), 1), ((0, 2), 1), ((1,), 1)), times, TWINS)
        self.gives((((0, 1, 2), 1), ((0, 1, 2, 3), 1), ((0, 1, 3), 1), ((0, 2, 3), 1), ((1, 2, 3), 1)), times, put_in(4))

    def test_three_roads(self):
        for book in SOME + all_books(3, 1) + all_books(3, 2)[::29]:
            told = self.gives(slow_times(book), times, book)
            members = heap(book)
            ranks = {f: least_rank_of(members_of(book, f)) for f in all_faces(book)}
            by_rank = all(len([p for p in range(book[0]) if m[p] == p]) == ranks[face_of_member(book, m)]
                          for m in members)
            self.assertIs(told is not None, by_rank)
            self.assertIs(told is not None, triangle(book) is not None)
            if told is not None:
                numbers = dict(told)
                self.assertTrue(set(numbers) <= set(ranks))
                for f in ranks:
                    more = sum(numbers.get(g, 0) for g in ranks if set(f) < set(g))
                    self.assertEqual(numbers.get(f, 0), ranks[f] - more)

    def test_they_tell_the_speeds(self):
        chance = random.Random(1)
        for book in SOME:
            told = times(book)
            if told is None:
                continue
            for _ in range(3):
                weights = {word: Fraction(chance.randrange(-9, 10), chance.randrange(1, 5))
                           for word in some_words(book)[:12]}
                z = Fraction(chance.randrange(-30, 30), 7)
                wanted = Fraction(1)
                for lot, number in told:
                    speed = sum(weight for word, weight in weights.items() if set(word) <= set(lot))
                    wanted *= (z - speed) ** number
                self.assertEqual(determinant(less_from(z, word_table(book, weights))), wanted)

    def test_no_times_tell_the_speeds_of_books_without(self):
        # Held is the sum of the numbers for the word's lot, if times tell the speeds.
        for book in all_books(2, 2) + all_books(3, 1):
            n, g = book[0], len(book[1])
            if times(book) is None:
                lots = sorted(lots_of(g))
                for numbers in rows_of(range(n + 1), repeat=len(lots)):
                    told = tuple((lot, number) for lot, number in zip(lots, numbers) if number)
                    self.assertIsNotNone(judge_times(book, told))

    def test_sums_in_no_other_way(self):
        # Factors with a number for each member that hangs on the factor: traces of one and of two tables must agree.
        for book in all_books(2, 1) + all_books(2, 2) + [EXCHANGE, Q]:
            members = heap(book)
            held = [[len([p for p in range(2) if then(a, b)[p] == p]) for b in members] for a in members]
            ways = [[]]
            for k in range(len(members)):
                ways = [way + [(x, y)] for way in ways for x in range(3) for y in range(3) if x + y == held[0][k]
                        and all(x * u + y * v == held[k][j] for j, (u, v) in enumerate(way + [(x, y)]))]
            self.assertIs(len(ways) > 0, triangle(book) is not None)
            for way in ways:
                told = sorted(tuple(k for k, d in enumerate(book[1]) if way[members.index(d)][at] == 1)
                              for at in range(2))
                self.assertEqual(told, [lot for lot, number in times(book) for _ in range(number)])

    def test_what_holds_where_there_are_times(self):
        for book in SOME + [OF_SUMS]:
            told = times(book)
            if told is None:
                continue
            members = heap(book)
            whole = tuple(range(len(book[1])))
            self.assertEqual(sum(number for _, number in told), book[0])
            self.assertEqual(dict(told)[whole], min(rank(m) for m in members))
            for m in members:
                held = {p for p in range(book[0]) if m[p] == p}
                lead, ring = lead_and_ring(m)
                for k in range(1, lead + ring + 1):
                    self.assertEqual({p for p in range(book[0]) if power(m, k)[p] == p}, held)

    def test_bound(self):
        self.gives(None, times, heap_of_400())
        book = sums_of_400()
        told = times(book)
        self.gives(None, judge_times, book, told)
        self.assertEqual(sum(number for _, number in told), 10)
        for book in (turns_of_401(), sums_of_500(), heap_of_5040()):
            self.refused(TooMany, {}, times, book)
            for value in (None, (), told, [((0,), 1)], (((0,), 0),), (((0,), 1), ((0,), 1))):
                self.refused(TooMany, {}, judge_times, book, value)


class JudgeTimes(Case):
    def test_examples(self):
        self.gives(("held", (0,)), judge_times, EXCHANGE, (((0,), 2),))
        self.gives(("held", (0, 0)), judge_times, EXCHANGE, (((), 2),))
        self.gives(None, judge_times, W, OF_W)
        self.gives(("held", ()), judge_times, W, ())
        self.gives(None, judge_times, NONE, (((), 3),))
        self.gives(("held", ()), judge_times, NONE, (((), 10 ** 299),))
        self.gives(("held", (0,)), judge_times, W, (((), 1), ((0,), 1), ((1,), 1)))
        self.gives(("held", (0, 1)), judge_times, W, (((), 1), ((0, 1), 2)))

    def test_form(self):
        for value in ANYTHING + [(((0,), 0),), (((0,), -1),), (((0,), True),), (((0,), 1, 1),), ([(0,), 1],),
                                 (((0, 0), 1),), (((1, 0), 1),), (((2,), 1),), (((True,), 1),), [((0,), 1)],
                                 (((0,), "1"),), (([0], 1),), OF_W + (None,), OF_W + (((0, 2), 1),)]:
            if value != ():
                self.gives(("form",), judge_times, W, value)
        self.gives(("held", ()), judge_times, W, ())
        self.gives(("form",), judge_times, W, (((1,), 1), ((0,), 1), ((1,), 0)))

    def test_order(self):
        self.gives(("order", 1), judge_times, W, (((0,), 1), ((0,), 1)))
        self.gives(("order", 2), judge_times, W, (((0,), 1), ((1,), 1), ((0, 1), 1)))
        self.gives(("order", 1), judge_times, W, (((1,), 1), ((), 1), ((), 1)))

    def test_first_wrong_word(self):
        chance = random.Random(9)
        for book in FEW + [V, W, put_in(3)]:
            right = times(book)
            lots = sorted(lots_of(len(book[1])))
            for _ in range(12):
                told = dict(right or ())
                for lot in lots:
                    if chance.random() < 0.4:
                        told[lot] = chance.choice([0, 1, 1, 2, book[0]])
                value = tuple((lot, told[lot]) for lot in sorted(told) if told[lot])
                fault = judge_times(book, value)
                self.gives(fault, judge_times, book, value)
                word = first_wrong(book, value)
                if value == right:
                    self.assertIsNone(fault)
                elif word is not None:
                    self.assertEqual(fault, ("held", word))
                else:
                    self.assertNotEqual(held_of(book, fault[1]), told_by(value, fault[1]))

    def test_late_words(self):
        # Held of short words is as the first road tells, also of a book that has no times.
        book = (6, ((5, 0, 1, 3, 3, 5), (0, 0, 2, 2, 4, 4)))
        told = tuple((lot, number) for lot, number in first_road(book) if number > 0)
        self.gives(("held", first_wrong(book, told)), judge_times, book, told)
        # Wrong by all three letters together alone.
        book = side_by_side(put_in(3), (2, ((0, 0),) * 3))
        self.gives(("held", (0, 1, 2)), judge_times, book, (((0,), 1), ((0, 1, 2), 3), ((1,), 1), ((2,), 1)))

    def test_400_members(self):
        book = heap_of_400()
        fault = judge_times(book, (((0, 1, 2, 3), 10),))
        self.assertEqual(fault, ("held", (0,)))
        book = sums_of_400()
        told = times(book)
        self.gives(("held", ()), judge_times, book, told[1:])


class Together(Case):
    def test_examples(self):
        self.gives((((), 1), ((0,), 2)), times_cut, OF_W, (0,))
        self.gives((((), 1), ((0,), 2)), times_cut, OF_W, (1,))
        self.gives((((), 3),), times_cut, OF_W, ())
        self.gives(OF_W, times_cut, OF_W, (0, 1))
        self.gives((((0,), 2), ((0, 1), 2), ((1,), 2)), times_together, OF_W, OF_W)
        self.gives((((), 3), ((0,), 1), ((0, 1), 1), ((1,), 1)), times_together, OF_W, (((), 3),))
        self.gives((((0,), 1), ((0, 2), 1)), times_cut, (((0, 2, 4), 1), ((1, 2), 1)), (2, 3, 4))

    def test_cut_books(self):
        for book in SOME:
            told = times(book)
            if told is not None:
                for lot in lots_of(len(book[1])):
                    self.gives(times(cut(book, lot)), times_cut, told, lot)

    def test_books_side_by_side(self):
        for book in FEW:
            for other in FEW:
                if len(book[1]) != len(other[1]):
                    self.refused(UnlikeLetters, {}, side_by_side, book, other)
                    continue
                told, more = times(book), times(other)
                both = times(side_by_side(book, other))
                self.assertIs(both is not None, told is not None and more is not None)
                if both is not None:
                    self.gives(both, times_together, told, more)


if __name__ == "__main__":
    unittest.main()
