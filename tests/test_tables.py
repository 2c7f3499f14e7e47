"""tables.py: S6.1."""

import random
import unittest
from itertools import product as words_of

from drawndeeds.heaps import heap
from drawndeeds.tables import member_table, multiplied, power_of, table_of, trace_of
from tests.bookssupport import EXCHANGE, NONE, ONE, Q, SOME, TWINS, W, held_of
from tests.support import Case, deed_of, heap_of_400

BIG = tuple(tuple(10 ** 7 - 13 * p - q for q in range(8)) for p in range(8))


def slow_table(n, deeds, weights):
    return tuple(tuple(sum(w for d, w in zip(deeds, weights) if d[p] == q) for q in range(n)) for p in range(n))


def slow_product(one, other):
    n = len(one)
    return tuple(tuple(sum(one[p][r] * other[r][q] for r in range(n)) for q in range(n)) for p in range(n))


def weights_for(chance, many):
    return tuple(chance.choice([0, 1, -1, chance.randrange(-10 ** 6, 10 ** 6 + 1)]) for _ in range(many))


class Tables(Case):
    def test_examples(self):
        self.gives(((7, 3), (2, 8)), table_of, Q, (2, 3, 5))
        self.gives(((0, 3), (3, 0)), table_of, EXCHANGE, (3,))
        self.gives(((2, 1), (1, 2)), member_table, EXCHANGE, (2, 1))
        self.gives(15, trace_of, ((7, 3), (2, 8)))

    def test_edges(self):
        self.gives(((0, 0, 0),) * 3, table_of, NONE, ())
        self.gives(((-4, 0, 0), (0, -4, 0), (0, 0, -4)), member_table, NONE, (-4,))
        self.gives(((-1,),), table_of, ONE, (2, -3))
        self.gives(((7,),), member_table, ONE, (7,))
        self.gives(((3, 0, 0), (1, 2, 0), (2, 0, 1)), table_of, TWINS, (0, 2, 1))
        self.gives(((0, 0), (0, 0)), table_of, EXCHANGE, (0,))

    def test_tables(self):
        chance = random.Random(6)
        for book in SOME:
            n, deeds = book
            weights = weights_for(chance, len(deeds))
            table = self.gives(slow_table(n, deeds, weights), table_of, book, weights)
            self.assertTrue(all(sum(row) == sum(weights) for row in table))
            weights = weights_for(chance, len(heap(book)))
            table = self.gives(slow_table(n, heap(book), weights), member_table, book, weights)
            self.assertTrue(all(sum(row) == sum(weights) for row in table))
            self.gives(sum(table[p][p] for p in range(n)), trace_of, table)

    def test_400_members(self):
        book = heap_of_400()
        weights = tuple(k * k - 500 for k in range(400))
        self.gives(slow_table(10, heap(book), weights), member_table, book, weights)

    def test_products(self):
        chance = random.Random(7)
        for n in range(1, 9):
            one, other = [tuple(tuple(chance.randrange(-10 ** 40, 10 ** 40) for _ in range(n)) for _ in range(n))
                          for _ in range(2)]
            self.gives(slow_product(one, other), multiplied, one, other)

    def test_powers(self):
        for table in (BIG, ((0,),), ((3,),), ((7, 3), (2, 8)), ((0, 1), (0, 0)), ((0, 1), (1, 0))):
            n = len(table)
            wanted = tuple(tuple(int(p == q) for q in range(n)) for p in range(n))
            for t in range(61):
                self.gives(wanted, power_of, table, t)
                wanted = slow_product(wanted, table)
        great = tuple(tuple(10 ** 40 - p * q for q in range(8)) for p in range(8))
        self.gives(slow_product(power_of(great, 19), great), power_of, great, 20)

    def test_powers_count_words(self):
        chance = random.Random(8)
        for book in (W, Q, EXCHANGE, TWINS, ONE, NONE):
            n, deeds = book
            weights = weights_for(chance, len(deeds))
            for t in range(5):
                wanted = [[0] * n for _ in range(n)]
                held = 0
                for word in words_of(range(len(deeds)), repeat=t):
                    worth = 1
                    for letter in word:
                        worth *= weights[letter]
                    for p, q in enumerate(deed_of(book, word)):
                        wanted[p][q] += worth
                    held += held_of(book, word) * worth
                table = power_of(table_of(book, weights), t)
                self.plain(tuple(tuple(row) for row in wanted), table)
                self.gives(held, trace_of, table)


if __name__ == "__main__":
    unittest.main()
