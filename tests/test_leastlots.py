"""leastlots.py: S3.6."""

import unittest

from drawndeeds.books import is_settled, product, rank, reach
from drawndeeds.errors import NoLot
from drawndeeds.heaps import heap
from drawndeeds.leastlots import least_lot, member_of, partings, reaches, told_by, turnings
from tests.support import ANYTHING, B, Case, E, MIDDLE, SMALL, heap_of_400

SOME = SMALL[::3] + [book for book in MIDDLE if len(heap(book)) < 40]
BACK = (3, ((2, 0, 0),))


def parting_of(deed):
    return tuple(min(q for q in range(len(deed)) if deed[q] == deed[p]) for p in range(len(deed)))


class LeastLots(Case):
    def test_examples(self):
        self.gives([(0, 1, 0), (0, 1, 1)], partings, E)
        self.gives([(0, 1)], reaches, E)
        self.gives([(0, 1), (1, 0)], turnings, E, (0, 1))
        self.gives(((0, 1, 1), (0, 1), (1, 0)), told_by, E, (1, 0, 0))
        self.gives(((1, 0, 1), (0, 1, 1), (0, 1, 0), (1, 0, 0)), least_lot, E)
        self.gives(None, told_by, E, (0, 1, 2))
        self.gives(((0, 1, 1), (0, 2), (2, 0)), told_by, BACK, (2, 0, 0))
        self.gives((1, 0, 0), member_of, E, (0, 1, 1), (0, 1), (1, 0))

    def test_no_letters_and_one_place(self):
        self.gives(((0, 1, 2),), least_lot, (3, ()))
        self.gives([(0, 1, 2)], partings, (3, ()))
        self.gives([(0, 1, 2)], reaches, (3, ()))
        self.gives([(0, 1, 2)], turnings, (3, ()), (0, 1, 2))
        self.gives(((0,), (0,), (0,)), told_by, (1, ((0,),)), (0,))
        self.gives((0,), member_of, (1, ()), (0,), (0,), (0,))

    def test_least_rank_and_comings(self):
        for book in SOME:
            members = heap(book)
            least = min(rank(m) for m in members)
            self.gives(tuple(m for m in members if rank(m) == least), least_lot, book)
            coming = tuple(m for m in members if all(
                any(product(product(x, a), y) == m for x in members for y in members) for a in members))
            self.assertEqual(least_lot(book), coming)

    def test_what_tells_members(self):
        for book in SOME + [heap_of_400()]:
            lot = least_lot(book)
            self.gives(sorted({parting_of(m) for m in lot}), partings, book)
            self.gives(sorted({reach(m) for m in lot}), reaches, book)
            many = set()
            for reached in reaches(book):
                told = sorted({tuple(m[p] for p in reached) for m in lot if reach(m) == reached})
                self.gives(told, turnings, book, reached)
                many.add(len(told))
                self.assertTrue(all(sorted(turning) == list(reached) for turning in told))
                for one in told:
                    for other in told:
                        self.assertIn(tuple(other[reached.index(p)] for p in one), told)
                    back = sorted(zip(one, reached))
                    self.assertIn(tuple(p for _, p in back), told)
                for parting in partings(book):
                    self.assertEqual(len({parting[p] for p in reached}), len(reached))
            self.assertEqual(len(many), 1)
            self.assertEqual(len(lot), len(partings(book)) * len(reaches(book)) * many.pop())

    def test_told_and_found_again(self):
        for book in SOME:
            lot = least_lot(book)
            for m in heap(book):
                if m not in lot:
                    self.gives(None, told_by, book, m)
                    continue
                parting, reached, turning = told_by(book, m)
                self.plain((parting_of(m), reach(m), tuple(m[p] for p in reach(m))), (parting, reached, turning))
                self.gives(m, member_of, book, parting, reached, turning)
                self.assertIs(turning == reached, is_settled(m))
            for parting in partings(book):
                for reached in reaches(book):
                    for turning in turnings(book, reached):
                        m = member_of(book, parting, reached, turning)
                        self.assertEqual(told_by(book, m), (parting, reached, turning))

    def test_kinds_in_the_least_lot(self):
        for book in SOME:
            members = heap(book)
            lot = least_lot(book)
            for a in lot:
                for b in lot:
                    behind = any(product(a, x) == b for x in members) and any(product(b, x) == a for x in members)
                    ahead = any(product(x, a) == b for x in members) and any(product(x, b) == a for x in members)
                    self.assertIs(behind, parting_of(a) == parting_of(b))
                    self.assertIs(ahead, reach(a) == reach(b))

    def test_no_reaches(self):
        for value in ANYTHING + [[0, 1], (0, True), (False, 1), (1, 0), (0, 2), (0, 1, 2), ((0, 1),), ("0", "1")]:
            if value != (0, 1) or isinstance(value, list):
                self.refused(NoLot, {"lot": value}, turnings, E, value)
            elif any(isinstance(p, bool) for p in value):
                self.refused(NoLot, {"lot": value}, turnings, E, value)
        self.refused(NoLot, {"lot": (False, True)}, turnings, E, (False, True))

    def test_no_member_has_them(self):
        right = ((0, 1, 1), (0, 1), (1, 0))
        for k in range(3):
            for value in ANYTHING:
                if value != right[k] or any(isinstance(p, bool) for p in value):
                    given = right[:k] + (value,) + right[k + 1:]
                    found = [m for m in least_lot(E) if told_by(E, m) == given
                             and not any(isinstance(p, bool) for p in value)]
                    self.gives(found[0] if found else None, member_of, E, *given)
        self.gives(None, member_of, E, [0, 1, 1], (0, 1), (1, 0))
        self.gives(None, member_of, E, (0, 1, True), (0, 1), (1, 0))
        self.gives(None, member_of, E, (0, 1, 1), (0, True), (1, 0))
        self.gives(None, member_of, E, (0, 1, 1), (0, 1), (True, False))
        self.gives(None, member_of, E, (0, 0, 0), (0, 1), (1, 0))
        self.gives(None, member_of, B, None, None, None)


if __name__ == "__main__":
    unittest.main()
