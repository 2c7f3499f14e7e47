"""past.py: S9.4 and S9.5."""

import random
import unittest
from fractions import Fraction
from math import prod

from drawndeeds.leading import first_to_one, led_lots
from drawndeeds.meeting import never_met
from drawndeeds.past import led, mean_to_one, mean_together, told, unled
from drawndeeds.resting import end_share
from drawndeeds.sure import is_sure, unsure_paper
from tests.bookssupport import EXCHANGE, ONE, Q
from tests.support import Case, deed_of, words_up_to
from tests.walkssupport import (
    ALL_MAPS, EIGHTS, L, SLOPE, SMALL_WALKS, SWAYING, WALKS, WHEEL, deeds_with_worths, led_apart, means_of, pair_of,
    pairs_of, weights_for, words_with_worths)


# Books with just 40 reaches of two places and more, and with some less and more.
FORTY = [
    ((6, ((1, 2, 3, 4, 5, 0), (0, 5, 3, 4, 5, 0))), 40),
    ((7, ((1, 2, 1, 1, 5, 6, 0), (0, 1, 3, 4, 4, 5, 0), (0, 1, 5, 2, 3, 5, 0))), 40),
    ((8, ((1, 1, 3, 3, 5, 5, 7, 0), (0, 2, 3, 4, 5, 6, 6, 0))), 40),
    ((8, ((1, 2, 2, 0, 5, 6, 6, 7), (1, 1, 6, 3, 5, 5, 6, 7), (1, 2, 3, 3, 5, 5, 0, 0))), 40),
    ((8, ((1, 2, 3, 3, 5, 6, 6, 0), (1, 2, 7, 4, 5, 5, 7, 7))), 39),
    ((7, ((1, 6, 3, 3, 5, 6, 0), (1, 2, 6, 4, 4, 5, 6))), 41),
]


def slow_told(book, draws):
    for k in range(len(draws) + 1):
        deed = deed_of(book, draws[:k][::-1])
        if len(set(deed)) == 1:
            return (k, deed[0])
    return None


class Led(Case):
    def test_examples(self):
        self.gives((1, 2, 0), led, SLOPE, (1, 2), 2)
        self.gives((5, 10, 0), led, SLOPE, (1, 2), 3)
        self.gives(6, unled, SLOPE, (1, 2), 2)
        self.gives(12, unled, SLOPE, (1, 2), 3)
        self.gives(((1, 3), (2, 3), (0, 1)), end_share, SLOPE, (1, 2), 0)

    def test_edges(self):
        self.gives((1,), led, ONE, (3, 4), 0)
        self.gives((7 ** 60,), led, ONE, (3, 4), 60)
        self.gives(0, unled, ONE, (3, 4), 0)
        self.gives(0, unled, ONE, (3, 4), 60)
        self.gives((0, 0, 0), led, SLOPE, (1, 2), 0)
        self.gives(1, unled, SLOPE, (1, 2), 0)
        self.gives((0, 0), led, EXCHANGE, (10 ** 6,), 60)
        self.gives(10 ** 360, unled, EXCHANGE, (10 ** 6,), 60)
        self.gives((2, 3), led, Q, (2, 3, 5), 1)
        great = led(ALL_MAPS, (10 ** 6, 1, 999983), 60)
        self.assertEqual(sum(great) + unled(ALL_MAPS, (10 ** 6, 1, 999983), 60), (2 * 10 ** 6 - 16) ** 60)
        self.assertGreater(min(great), 0)
        # Two letters with the same deed count as one with the weights of both.
        self.gives(led((2, ((0, 0), (0, 1))), (7, 5), 9), led, (2, ((0, 0), (0, 1), (0, 0))), (3, 5, 4), 9)

    def test_by_all_words(self):
        chance = random.Random(111)
        for book in WALKS:
            weights = weights_for(chance, book)
            for t in range(5 if len(book[1]) < 4 else 3):
                wanted = [0] * book[0]
                rest = 0
                for word, deed, worth in words_with_worths(book, weights, t):
                    if len(set(deed)) == 1:
                        wanted[deed[0]] += worth
                    else:
                        rest += worth
                self.gives(tuple(wanted), led, book, weights, t)
                self.gives(rest, unled, book, weights, t)

    def test_what_holds(self):
        chance = random.Random(112)
        for book in SMALL_WALKS + [WHEEL, SLOPE, ALL_MAPS, EIGHTS]:
            weights = weights_for(chance, book)
            total = sum(weights)
            rows = [led(book, weights, t) for t in range(15)]
            rests = [unled(book, weights, t) for t in range(15)]
            for t in range(14):
                self.assertTrue(all(total * x <= y for x, y in zip(rows[t], rows[t + 1])))
                self.assertEqual(sum(rows[t]) + rests[t], total ** t)
                for s in range(14 - t):
                    self.assertLessEqual(rests[s + t], rests[s] * rests[t])
            if never_met(book) != ():
                self.assertEqual(set(x for row in rows for x in row), {0})
                continue
            share = [Fraction(*x) for x in end_share(book, weights, 0)]
            for t, (row, rest) in enumerate(zip(rows, rests)):
                for x, part in zip(row, share):
                    self.assertLessEqual(x, part * total ** t)
                    self.assertLessEqual(part * total ** t, x + rest)
            word = first_to_one(book)
            worth = prod(weights[letter] for letter in word)
            for t in range(6):
                if len(word) * t < 15:
                    self.assertLessEqual(rests[len(word) * t], (total ** len(word) - worth) ** t)


class Told(Case):
    def test_examples(self):
        self.gives((2, 1), told, SLOPE, (1, 0, 0))
        self.gives(None, told, SLOPE, (1, 1))

    def test_edges(self):
        self.gives((0, 0), told, ONE, ())
        self.gives((0, 0), told, (1, ()), ())
        self.gives((0, 0), told, ONE, (1, 0, 1))
        self.gives(None, told, SLOPE, ())
        self.gives(None, told, (8, ()), ())
        self.gives(None, told, EXCHANGE, (0,) * 2000)
        self.gives(None, told, SLOPE, (1,) * 2000)
        self.gives((2000, 1), told, SLOPE, (1,) * 1999 + (0,))
        self.gives((1, 0), told, Q, (0, 1))
        self.gives((1, 1), told, Q, (1, 0, 0))
        self.gives((3, 0), told, Q, (2, 2, 0, 1, 1))

    def test_by_all_draws(self):
        for book in SMALL_WALKS[::2] + [SLOPE, WHEEL]:
            for draws in words_up_to(len(book[1]), 5 if len(book[1]) < 3 else 3):
                found = self.gives(slow_told(book, draws), told, book, draws)
                if found is not None and len(draws) < 4:
                    self.assertTrue(all(told(book, draws + (k,)) == found for k in range(len(book[1]))))

    def test_draws_that_tell_have_the_worths_that_are_led(self):
        chance = random.Random(113)
        for book in SMALL_WALKS + [SLOPE]:
            weights = weights_for(chance, book)
            for t in range(4):
                sums = [0] * book[0]
                for draws, _, worth in words_with_worths(book, weights, t):
                    found = told(book, draws)
                    if found is not None:
                        sums[found[1]] += worth
                self.assertEqual(tuple(sums), led(book, weights, t))


class Means(Case):
    def test_examples(self):
        self.gives((4, 1), mean_to_one, SLOPE, (1, 2))

    def test_edges(self):
        self.gives((0, 1), mean_to_one, ONE, (3, 4))
        self.gives(None, mean_to_one, EXCHANGE, (3,))
        self.gives(None, mean_to_one, L, (1, 1))
        self.gives(None, mean_together, L, (1, 1), (1, 2))
        self.gives(None, mean_together, EXCHANGE, (1,), (0, 1))
        self.gives((1, 1), mean_to_one, (2, ((1, 1),)), (10 ** 6,))
        self.gives((10 ** 6, 1), mean_to_one, (2, ((1, 1), (0, 1))), (1, 999999))
        self.gives((10 ** 6, 1), mean_together, (2, ((1, 1), (0, 1))), (1, 999999), (0, 1))
        self.gives(None, mean_to_one, SWAYING, (1, 1))
        # One of two letters leads 0 and 2, and 1 and 3, together; the other one leads these pairs to one another.
        self.gives((10, 7), mean_together, SWAYING, (7, 3), (0, 2))
        self.gives((10, 7), mean_together, SWAYING, (7, 3), (1, 3))

    def test_the_mean_to_one_by_equations(self):
        chance = random.Random(114)
        for book in [book for book in WALKS if never_met(book) == ()] + [WHEEL]:
            weights = weights_for(chance, book)
            lots = [lot for lot in led_lots(book) if len(lot) > 1]
            wanted = means_of(lots, lambda lot, k: tuple(sorted({book[1][k][p] for p in lot})), weights)
            whole = pair_of(wanted[lots[0]]) if lots else (0, 1)
            self.gives(whole, mean_to_one, book, weights)
            for pair in pairs_of(book[0]):
                self.assertLessEqual(Fraction(*mean_together(book, weights, pair)), Fraction(*whole))

    def test_the_mean_together_by_equations(self):
        chance = random.Random(115)
        for book in WALKS + [WHEEL]:
            weights = weights_for(chance, book)
            sure = [pair for pair in pairs_of(book[0]) if is_sure(book, pair)]
            wanted = means_of(sure, lambda pair, k: led_apart(book[1][k], pair), weights)
            for pair in pairs_of(book[0]):
                self.gives(pair_of(wanted[pair]) if pair in wanted else None, mean_together, book, weights, pair)

    def test_means_are_the_sums(self):
        """The sums of the first parts stay below the means, and come near to them where draws forget soon."""
        for book in SMALL_WALKS[::2] + [SLOPE, SWAYING, L]:
            weights = tuple(range(2, len(book[1]) + 2))
            total = sum(weights)
            parts = [deeds_with_worths(book, weights, t) for t in range(25)]
            rows = [Fraction(unled(book, weights, t), total ** t) for t in range(25)]
            self.near(mean_to_one(book, weights), rows)
            if mean_to_one(book, weights) is None:
                self.assertEqual(rows, [1] * 25)
            for pair in pairs_of(book[0]):
                apart = [sum(worth for deed, worth in row.items() if led_apart(deed, pair)) for row in parts]
                self.near(mean_together(book, weights, pair), [Fraction(x, total ** t) for t, x in enumerate(apart)])
                self.assertIs(mean_together(book, weights, pair) is None, not is_sure(book, pair))
                if not is_sure(book, pair):
                    # From its letters on a word keeps its share of those that do not lead the pair together.
                    word = unsure_paper(book, pair)[0]
                    worth = prod(weights[letter] for letter in word)
                    for t in range(len(word), 25):
                        self.assertGreaterEqual(apart[t], worth * total ** (t - len(word)))

    def near(self, mean, row):
        """The parts of a row add up to a mean, if there is one, but for what is left behind a small last part."""
        if mean is not None:
            self.assertLessEqual(sum(row), Fraction(*mean))
            if row[-1] < Fraction(1, 1000):
                self.assertLess(Fraction(*mean) - sum(row), Fraction(1, 10))

    def test_forty_reaches(self):
        for book, many in FORTY:
            lots = [lot for lot in led_lots(book) if len(lot) > 1]
            self.assertEqual(len(lots), many)
            self.assertEqual(never_met(book), ())
            weights = tuple([10 ** 6 - 17 * k for k in range(len(book[1]))])
            wanted = means_of(lots, lambda lot, k: tuple(sorted({book[1][k][p] for p in lot})), weights)
            self.gives(pair_of(wanted[lots[0]]), mean_to_one, book, weights)


if __name__ == "__main__":
    unittest.main()
