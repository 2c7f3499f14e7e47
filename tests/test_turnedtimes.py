"""turnedtimes.py: S11.1, S11.3 to S11.8."""

import random
import unittest
from fractions import Fraction
from math import gcd, lcm, prod

from drawndeeds.errors import TooMany
from drawndeeds.heaps import heap, least_words
from drawndeeds.homecomings import homecomings
from drawndeeds.lots import side_by_side
from drawndeeds.speeds import times
from drawndeeds.stairs import stairs
from drawndeeds.turnedtimes import judge_turned, rings, turned_homecomings, turned_times
from tests.bookssupport import (
    EXCHANGE, NONE, ONE, Q, W, determinant, less_from, sums_of_500, turns_of_401, word_table)
from tests.support import ANYTHING, Case, heap_of_400, heap_of_5040
from tests.turnssupport import (
    BOOKS, FOUR_RINGS, RINGS, T, held_in, rings_of_500, slow_rings, turned_falls, turned_of_400, value_at,
    with_places_moved)

OF_E = (((0,), (0,), 1), ((0,), (1,), 1))
FEW = [book for book in BOOKS if len(book[1]) < 5 and prod(slow_rings(book)) <= 500]


class Rings(Case):
    def test_rings(self):
        self.gives([], rings, NONE)
        self.gives([1, 1], rings, ONE)
        self.gives([2], rings, EXCHANGE)
        self.gives([8, 4], rings, RINGS)
        self.gives([5, 3, 1, 1], rings, FOUR_RINGS)
        self.gives([10, 10, 5, 1], rings, rings_of_500())
        self.gives([15], rings, (8, ((1, 2, 0, 4, 5, 6, 7, 3),)))
        for book in BOOKS:
            self.gives(slow_rings(book), rings, book)


class TurnedTimes(Case):
    def test_examples(self):
        self.gives(OF_E, turned_times, EXCHANGE)
        self.gives(None, turned_times, T)
        self.gives(18, turned_homecomings, EXCHANGE, OF_E, [3], 2)
        self.gives(0, turned_homecomings, EXCHANGE, OF_E, [3], 3)

    def test_edges(self):
        self.gives((((), (), 3),), turned_times, NONE)
        self.gives((((), (), 1),), turned_times, (1, ()))
        self.gives((((0, 1), (0, 0), 1),), turned_times, ONE)
        self.gives(tuple(((0, 1), (k, k % 4), 1) for k in range(8)), turned_times, RINGS)
        # Rings of two and of three places: two numbers have the turn 0.
        self.gives((((0,), (0,), 2), ((0,), (2,), 1), ((0,), (3,), 1), ((0,), (4,), 1)),
                   turned_times, (5, ((1, 0, 3, 4, 2),)))
        self.gives((((0,), (0,), 1), ((0, 1), (0, 0), 1), ((1,), (0,), 1)), turned_times, W)
        self.gives((((), (), 1), ((0,), (0,), 1)), turned_times, (2, ((0, 0),)))
        found = turned_times((17, ((1, 2, 3, 4, 0, 6, 7, 8, 9, 10, 11, 5, 13, 14, 15, 12, 16),)))
        self.assertEqual(sum(number for _, _, number in found), 17)
        self.assertEqual(found[0], ((0,), (0,), 4))

    def test_bound(self):
        for book in (turns_of_401(), sums_of_500(), heap_of_5040()):
            self.refused(TooMany, {}, turned_times, book)
            for value in (None, (), [], ((1, 2),), (((0,), (0,), 1),)):
                self.refused(TooMany, {}, judge_turned, book, value)
        self.gives(None, turned_times, heap_of_400())
        self.gives(("held",), judge_turned, heap_of_400(), ())
        book = turned_of_400()
        self.assertEqual(len(heap(book)), 400)
        found = self.gives(turned_times(book), turned_times, book)
        self.assertEqual(sum(number for _, _, number in found), 17)
        self.gives(None, judge_turned, book, found)
        self.held_as_told(book, found)
        book = rings_of_500()
        self.assertEqual(prod(rings(book)), 500)
        found = self.gives(turned_times(book), turned_times, book)
        self.gives(None, judge_turned, book, found)
        self.held_as_told(book, found)

    def held_as_told(self, book, found):
        """Held of words is the sum of the values at them."""
        circles = rings(book)
        g = len(book[1])
        for word in least_words(book)[::7] + [(k,) * 3 for k in range(g)] + [tuple(range(g)) * 2,
                tuple(range(g))[::-1]]:
            value = sum(number * value_at(circles, lot, turns, word) for lot, turns, number in found)
            self.assertLess(abs(value - held_in(book, word)), 1e-6)

    def test_there_are_some_exactly_if_there_are_stairs(self):
        for book in FEW:
            found = self.gives(turned_times(book), turned_times, book)
            self.assertIs(found is None, stairs(book) is None)
            if found is None:
                continue
            self.held_as_told(book, found)
            self.assertEqual(sum(number for _, _, number in found), book[0])
            self.assertEqual(list(found), sorted(found))
            self.assertEqual(len({told[:2] for told in found}), len(found))
            whole = tuple(range(len(book[1])))
            self.assertIn((whole, (0,) * len(whole)), [told[:2] for told in found])

    def test_determinants(self):
        chance = random.Random(171)
        for book in FEW[::2]:
            found = turned_times(book)
            if found is None or book[0] > 6:
                continue
            circles = rings(book)
            words = least_words(book)[:12] + [(k, k) for k in range(len(book[1]))]
            weights = {word: Fraction(chance.randrange(-9, 10), chance.randrange(1, 5)) for word in words}
            for z in (-7, 3, 40):
                told = determinant(less_from(z, word_table(book, weights)))
                made = 1
                for lot, turns, number in found:
                    speed = sum(float(x) * value_at(circles, lot, turns, word) for word, x in weights.items())
                    made *= (z - speed) ** number
                self.assertLess(abs(made - float(told)), 1e-6 * (1 + abs(float(told))))

    def test_where_to_look(self):
        for book in FEW:
            found = turned_times(book)
            settled = found is not None and all(turn == 0 for _, turns, _ in found for turn in turns)
            self.assertIs(times(book) is not None, settled)
            if settled:
                self.assertEqual(times(book), tuple((lot, number) for lot, _, number in found))

    def test_turns_taken_times(self):
        for book in FEW + [RINGS, rings_of_500()]:
            found = turned_times(book)
            if found is None:
                continue
            circles = rings(book)
            numbers = {(lot, turns): number for lot, turns, number in found}
            for k in range(1, lcm(*circles, 1) + 1):
                if all(gcd(k, ring) == 1 for ring in circles):
                    for lot, turns, number in found:
                        other = tuple(turn * k % circles[letter] for letter, turn in zip(lot, turns))
                        self.assertEqual(numbers.get((lot, other)), number)

    def test_books_of_turns(self):
        for book in [book for book in FEW if all(len(set(deed)) == book[0] for deed in book[1])]:
            found = turned_times(book)
            apart = any(tuple(b[p] for p in a) != tuple(a[p] for p in b) for a in book[1] for b in book[1])
            self.assertIs(found is None, apart)
            if found is not None:
                self.assertEqual({lot for lot, _, _ in found}, {tuple(range(len(book[1])))})
                self.assertIs(times(book) is not None, all(deed == tuple(range(book[0])) for deed in book[1]))

    def test_turned_falls(self):
        dice = random.Random(172)
        for m, r, g in ((1, 5, 2), (2, 4, 3), (4, 2, 4), (2, 3, 3), (3, 2, 4), (8, 2, 2), (2, 8, 2), (5, 3, 2)) * 5:
            book, numbers = turned_falls(dice, m, r, g)
            book = with_places_moved(dice, book)
            circles = rings(book)
            if prod(circles) > 500:
                continue
            try:
                found = turned_times(book)
            except TooMany:
                continue
            told = {(lot, tuple(Fraction(turn, circles[k]) for k, turn in zip(lot, turns))): number
                    for lot, turns, number in found}
            self.assertEqual(told, numbers)
            worths = [dice.randrange(10 ** 6 + 1) for _ in range(g)]
            for t in (0, 1, 2, 7, 60):
                self.assertEqual(turned_homecomings(book, found, worths, t), homecomings(book, worths, t))

    def test_side_by_side(self):
        for book, other in ((EXCHANGE, (3, ((1, 2, 0),))), (RINGS, (8, ((0,) * 8, (0,) * 8))),
                (W, (2, ((1, 0), (1, 0))))):
            both = side_by_side(book, other)
            found = turned_times(both)
            circles = rings(both)
            numbers = {}
            for one in (book, other):
                for lot, turns, number in turned_times(one):
                    mark = (lot, tuple(turn * circles[k] // rings(one)[k] for k, turn in zip(lot, turns)))
                    numbers[mark] = numbers.get(mark, 0) + number
            self.assertEqual(found, tuple(mark + (numbers[mark],) for mark in sorted(numbers)))


class Judges(Case):
    def test_right_ones(self):
        for book in FEW:
            found = turned_times(book)
            for value in {found, (), ((tuple(range(len(book[1]))), (0,) * len(book[1]), book[0]),)} - {None}:
                self.gives(None if value == found else ("held",), judge_turned, book, value)
            if found is not None:
                lot, turns, number = found[-1]
                self.gives(("held",), judge_turned, book, found[:-1] + ((lot, turns, number + 1),))
                self.gives(("held",), judge_turned, book, found[:-1])
                self.gives(("order", len(found)), judge_turned, book, found + found[-1:])

    def test_faults_in_their_sequence(self):
        self.gives(None, judge_turned, EXCHANGE, OF_E)
        self.gives(("order", 1), judge_turned, EXCHANGE, OF_E[::-1])
        self.gives(("order", 1), judge_turned, EXCHANGE, (OF_E[0], ((0,), (0,), 2)))
        self.gives(("order", 2), judge_turned, EXCHANGE, OF_E + (((), (), 1),))
        self.gives(("held",), judge_turned, EXCHANGE, OF_E[:1])
        self.gives(("held",), judge_turned, EXCHANGE, (((0,), (0,), 2),))
        self.gives(("held",), judge_turned, EXCHANGE, (((), (), 1),) + OF_E)
        self.gives(("held",), judge_turned, T, ())
        self.gives(("held",), judge_turned, T, (((0, 1), (0, 0), 1), ((0, 1), (0, 1), 1), ((0, 1), (1, 0), 1)))
        self.gives(("order", 1), judge_turned, T, (((1,), (0,), 1), ((0, 1), (0, 0), 1)))
        self.gives(None, judge_turned, Q, (((0, 1, 2), (0, 0, 0), 1), ((2,), (0,), 1)))
        self.gives(("order", 1), judge_turned, Q, (((2,), (0,), 1), ((0, 1, 2), (0, 0, 0), 1)))
        self.gives(("held",), judge_turned, NONE, (((), (), 2),))
        self.gives(None, judge_turned, NONE, (((), (), 3),))

    def test_form(self):
        for value in ANYTHING:
            self.gives(("held",) if value == () else ("form",), judge_turned, EXCHANGE, value)
            self.gives(("form",), judge_turned, EXCHANGE, (value,))
            if value not in ((), (0,)) or isinstance(value, list):
                self.gives(("form",), judge_turned, EXCHANGE, OF_E + ((value, (0,), 1),))
            if value not in ((0,), (1,)) or isinstance(value, list):
                self.gives(("form",), judge_turned, EXCHANGE, OF_E + (((0,), value, 1),))
            if not isinstance(value, int) or isinstance(value, bool) or value < 1:
                self.gives(("form",), judge_turned, EXCHANGE, OF_E + (((0,), (1,), value),))
        for bad in (list(OF_E), (list(OF_E[0]),), (((0,), (2,), 1),), (((0,), (-1,), 1),), (((0,), (0, 0), 1),),
                    (((0,), (), 1),), (((1,), (0,), 1),), (((0, 0), (0, 0), 1),), (((0,), (0,), 0),),
                    (((0,), (True,), 1),), (((0,), (0,), True),), (((0,), [0], 1),), (([0], (0,), 1),),
                    (((0,), (0,)),), (((0,), (0,), 1, 1),)):
            self.gives(("form",), judge_turned, EXCHANGE, bad)
        self.gives(("form",), judge_turned, W, (((0,), (1,), 1),))
        self.gives(("form",), judge_turned, RINGS, (((0, 1), (7, 4), 1),))
        self.gives(("held",), judge_turned, RINGS, (((0, 1), (7, 3), 1),))


class Homecomings(Case):
    def test_homecomings(self):
        chance = random.Random(173)
        for book in FEW + [RINGS, rings_of_500(), turned_of_400(), FOUR_RINGS]:
            found = turned_times(book)
            if found is None:
                continue
            for t in (0, 1, 2, 3, 8, 30, 60):
                worths = [chance.choice([0, 1, 10 ** 6, chance.randrange(10 ** 6)]) for _ in book[1]]
                self.gives(homecomings(book, worths, t), turned_homecomings, book, found, worths, t)
        self.gives(3, turned_homecomings, NONE, (((), (), 3),), [], 0)
        self.gives(0, turned_homecomings, NONE, (((), (), 3),), [], 60)
        self.gives(8, turned_homecomings, RINGS, turned_times(RINGS), [0, 0], 0)
        self.gives(0, turned_homecomings, RINGS, turned_times(RINGS), [0, 0], 1)
        self.gives(8 * 10 ** 48, turned_homecomings, RINGS, turned_times(RINGS), (10 ** 6, 0), 8)


if __name__ == "__main__":
    unittest.main()
