"""homecomings.py: S5.9."""

import random
import unittest
from itertools import product as words_of

from drawndeeds.homecomings import homecomings, homecomings_by
from drawndeeds.speeds import times
from tests.bookssupport import EXCHANGE, NONE, ONE, OF_SUMS, SOME, W, held_of, seventeen
from tests.support import Case


def slow_homecomings(book, worths, t):
    total = 0
    for word in words_of(range(len(book[1])), repeat=t):
        worth = held_of(book, word)
        for letter in word:
            worth *= worths[letter]
        total += worth
    return total


class Homecomings(Case):
    def test_examples(self):
        self.gives(38, homecomings, W, [2, 3], 2)
        self.gives(38, homecomings_by, (((0,), 1), ((0, 1), 1), ((1,), 1)), [2, 3], 2)
        self.gives(38, homecomings, W, (2, 3), 2)

    def test_edges(self):
        self.gives(3, homecomings, NONE, [], 0)
        self.gives(0, homecomings, NONE, [], 1)
        self.gives(0, homecomings, NONE, [], 60)
        self.gives(3, homecomings_by, (((), 3),), [], 0)
        self.gives(0, homecomings_by, (((), 3),), [], 1)
        self.gives(0, homecomings_by, (), [1, 2], 0)
        self.gives(5, homecomings_by, (((0,), 2), ((1,), 3)), [0, 0], 0)
        self.gives(0, homecomings_by, (((0,), 2), ((1,), 3)), [0, 0], 60)
        self.gives(1, homecomings, ONE, [0, 0], 0)
        self.gives((2 * 10 ** 6) ** 60, homecomings, ONE, [10 ** 6, 10 ** 6], 60)
        self.gives((2 * 10 ** 6) ** 60, homecomings_by, (((0, 1), 1),), [10 ** 6, 10 ** 6], 60)
        self.gives(2 * 10 ** 360, homecomings, EXCHANGE, [10 ** 6], 60)
        self.gives(0, homecomings, EXCHANGE, [10 ** 6], 59)

    def test_as_they_stand(self):
        self.gives(2 * 4 - 3 * 4 + 9, homecomings_by, (((0,), 2), ((1,), 1), ((0,), -3)), [2, 3], 2)

    def test_by_words(self):
        chance = random.Random(3)
        for book in SOME:
            for t in range(4):
                worths = [chance.randrange(0, 50) for _ in book[1]]
                self.gives(slow_homecomings(book, worths, t), homecomings, book, worths, t)

    def test_by_times(self):
        chance = random.Random(5)
        for book in SOME + [OF_SUMS]:
            told = times(book)
            for t in (0, 1, 2, 7, 60):
                if told is not None:
                    worths = [chance.randrange(0, 10 ** 6) for _ in book[1]]
                    self.gives(homecomings(book, worths, t), homecomings_by, told, worths, t)

    def test_seventeen_places(self):
        book = seventeen()
        self.gives(slow_homecomings(book, [3, 4, 5], 4), homecomings, book, [3, 4, 5], 4)
        self.assertGreater(homecomings(book, [10 ** 6] * 3, 60), 10 ** 360)


if __name__ == "__main__":
    unittest.main()
