"""coming.py: S8.5 and S8.7."""

import random
import unittest
from fractions import Fraction
from itertools import combinations

from drawndeeds.coming import comings, mean_back, means
from drawndeeds.ends import ends
from drawndeeds.resting import end_share
from tests.bookssupport import EXCHANGE, FALLS, ONE
from tests.support import Case, heap_of_5040
from tests.walkssupport import (
    ALL_MAPS, EIGHTS, L, R, SEVERAL, SMALL_WALKS, THREE_ENDS, WALKS, answers, come_from, means_of, pair_of, ring_of,
    weights_for)

GREAT = [ALL_MAPS, EIGHTS, heap_of_5040(), FALLS, SEVERAL, THREE_ENDS]


class Comings(Case):
    def test_examples(self):
        self.gives((((1, 1), (0, 1)), ((2, 3), (1, 3)), ((1, 3), (2, 3)), ((0, 1), (1, 1))), comings, L, (1, 1))
        self.gives(((3, 7), (4, 7)), lambda *given: comings(*given)[1], L, (2, 1))

    def test_edges(self):
        self.gives((((1, 1),),), comings, ONE, (3, 10 ** 6))
        self.gives((((1, 1),),) * 8, comings, ALL_MAPS, (1, 10 ** 6, 3))
        self.gives((((1, 1),),) * 2, comings, EXCHANGE, (7,))
        self.gives((((1, 1), (0, 1), (0, 1)), ((0, 1), (1, 1), (0, 1)), ((0, 1), (0, 1), (1, 1))),
                   comings, (3, ((0, 1, 2), (0, 1, 2))), (1, 2))
        # One letter leads to the one end, one to the other, and one keeps the place as it is.
        book = (3, ((0, 1, 0), (0, 1, 1), (0, 1, 2)))
        self.gives((1, 10 ** 6), lambda *given: comings(*given)[2][0], book, (1, 999999, 10 ** 6))
        self.gives((999999, 10 ** 6), lambda *given: comings(*given)[2][1], book, (1, 999999, 10 ** 6))

    def test_what_holds(self):
        chance = random.Random(91)
        for book in WALKS + GREAT:
            for _ in range(2):
                weights = weights_for(chance, book)
                found = self.gives(comings(book, weights), comings, book, weights)
                lots = ends(book)
                told = [[Fraction(*x) for x in row] for row in found]
                for p in range(book[0]):
                    self.assertEqual([pair_of(x) for x in told[p]], list(found[p]))
                    self.assertEqual(sum(told[p]), 1)
                    for k, lot in enumerate(lots):
                        self.assertIs(told[p][k] > 0, come_from(book, p) >= set(lot))
                        if any(p in other for other in lots):
                            self.assertEqual(told[p][k], int(p in lot))
                        else:
                            self.assertEqual(sum(weights) * told[p][k], sum(
                                weight * told[deed[p]][k] for weight, deed in zip(weights, book[1])))

    def test_there_is_only_one(self):
        chance = random.Random(92)
        for book in [book for book in WALKS if len(ends(book)) > 1]:
            weights = weights_for(chance, book)
            lots = ends(book)
            outside = [p for p in range(book[0]) if not any(p in lot for lot in lots)]
            for k, lot in enumerate(lots):
                rows = [[sum(weights) * (p == q) - sum(w for w, deed in zip(weights, book[1]) if deed[p] == q)
                         for q in outside] for p in outside]
                sides = [sum(w for w, deed in zip(weights, book[1]) if deed[p] in lot) for p in outside]
                self.assertEqual([pair_of(x) for x in answers(rows, sides)],
                                 [comings(book, weights)[p][k] for p in outside])


class Means(Case):
    def test_examples(self):
        self.gives(((0, 1), (2, 1), (2, 1), (0, 1)), means, L, (1, 1), (0, 3))
        self.gives((None, None, None, (0, 1)), means, L, (1, 1), (3,))
        self.gives((5, 1), mean_back, R, (1, 1), 2)

    def test_edges(self):
        self.gives(((0, 1),), means, ONE, (3, 4), (0,))
        self.gives((1, 1), mean_back, ONE, (3, 4), 0)
        self.gives(((0, 1),) * 4, means, L, (5, 6), (0, 1, 2, 3))
        self.gives((1, 1), mean_back, L, (5, 6), 3)
        self.gives((2, 1), mean_back, EXCHANGE, (10 ** 6,), 1)
        self.gives(((1, 1), (0, 1)), means, EXCHANGE, (10 ** 6,), (1,))
        # From 0 the place 3 is come to just through the lot, so what is behind it does not count.
        book = (4, ((1, 2, 3, 3), (2, 2, 3, 3)))
        self.gives(((3, 2), (1, 1), (0, 1), None), means, book, (1, 1), (2,))
        self.gives(((1, 1), (0, 1), (0, 1), None), means, book, (2, 3), (1, 2))
        self.gives((None, (0, 1), None, None), means, book, (2, 3), (1,))
        # A place of the lot that the walk leaves again is in it all the same.
        self.gives(((0, 1), None, None, None), means, book, (2, 3), (0,))
        self.gives(((10 ** 6, 1), (0, 1)), means, (2, ((1, 1), (0, 1))), (1, 999999), (1,))

    def test_what_holds(self):
        chance = random.Random(93)
        for book in WALKS:
            weights = weights_for(chance, book)
            total = sum(weights)
            for lot in [lot for many in range(1, book[0] + 1) for lot in combinations(range(book[0]), many)][::3]:
                found = self.gives(means(book, weights, lot), means, book, weights, lot)
                for p in range(book[0]):
                    if p in lot:
                        self.assertEqual(found[p], (0, 1))
                        continue
                    met, row = {p}, [p]
                    for q in row:
                        for deed in book[1]:
                            if deed[q] not in met and q not in lot:
                                met.add(deed[q])
                                row.append(deed[q])
                    self.assertIs(found[p] is None, any(not come_from(book, q) & set(lot) for q in met))
                    if found[p] is not None:
                        led = [found[deed[p]] for deed in book[1]]
                        self.assertEqual(total * Fraction(*found[p]), total + sum(
                            weight * Fraction(*x) for weight, x in zip(weights, led)))
                        self.assertEqual(pair_of(Fraction(*found[p])), found[p])
                states = [p for p in range(book[0]) if p not in lot and found[p] is not None]
                wanted = means_of(states, lambda p, k: book[1][k][p], weights)
                self.assertEqual({p: found[p] for p in states}, {p: pair_of(x) for p, x in wanted.items()})

    def test_means_add_up_what_is_not_yet_there(self):
        # The mean is the sum, over t, of the chance to have been outside so far: 60 draws tell all but a little of it.
        for book in SMALL_WALKS[::3]:
            weights = tuple(range(1, len(book[1]) + 1))
            for p, mean in enumerate(means(book, weights, (0,))):
                now, total = {p: Fraction(1)}, Fraction(0)
                for _ in range(60):
                    now = {q: x for q, x in now.items() if q != 0}
                    total += sum(now.values())
                    longer = {}
                    for q, x in now.items():
                        for weight, deed in zip(weights, book[1]):
                            longer[deed[q]] = longer.get(deed[q], 0) + x * Fraction(weight, sum(weights))
                    now = longer
                if mean is None:
                    self.assertGreater(sum(now.values()), 0)
                else:
                    self.assertLessEqual(total, Fraction(*mean))
                    if Fraction(*mean) < 6:
                        self.assertLess(Fraction(*mean) - total, Fraction(1, 20))

    def test_mean_back(self):
        chance = random.Random(94)
        for book in WALKS + GREAT + [ring_of(7, 1)]:
            weights = weights_for(chance, book)
            for k, lot in enumerate(ends(book)):
                share = end_share(book, weights, k)
                for p in lot:
                    back = self.gives(mean_back(book, weights, p), mean_back, book, weights, p)
                    self.assertEqual(Fraction(*back) * Fraction(*share[p]), 1)
                    told = means(book, weights, (p,))
                    self.assertEqual(Fraction(*back), 1 + sum(
                        Fraction(weight, sum(weights)) * Fraction(*told[deed[p]])
                        for weight, deed in zip(weights, book[1])))
                    self.assertEqual(pair_of(Fraction(*back)), back)


if __name__ == "__main__":
    unittest.main()
