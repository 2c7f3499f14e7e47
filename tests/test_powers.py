"""powers.py: S3.3 and S3.4."""

import random
import unittest
from itertools import product as tuples_of
from math import lcm

from drawndeeds.books import is_settled, product
from drawndeeds.comings import kinds
from drawndeeds.heaps import heap
from drawndeeds.powers import (
    judge_mending, lead_and_ring, mending_paper, power, settled_members, settled_power)
from tests.support import ANYTHING, B, Case, E, MIDDLE, SMALL, deed_of, heap_of_400

SOME = SMALL[::3] + [book for book in MIDDLE if len(heap(book)) < 40]


def rings_and_lead(sizes, lead):
    """Rings of these sizes, and a row of places that leads into the first one."""
    deed = []
    for size in sizes:
        start = len(deed)
        deed += [start + (p + 1) % size for p in range(size)]
    for k in range(lead):
        deed.append(len(deed) - 1 if k else 0)
    return tuple(deed)


def slow_powers(deed):
    """The powers until one comes back, and the number of the one it is."""
    row = [tuple(range(len(deed)))]
    while True:
        new = tuple(deed[p] for p in row[-1])
        if new in row:
            return row, row.index(new)
        row.append(new)


class Powers(Case):
    def test_examples(self):
        self.gives((0, 1, 0), power, (1, 0, 1), 10 ** 30)
        self.gives((1, 0, 1), power, (1, 0, 1), 10 ** 30 + 1)
        self.gives((1, 2), lead_and_ring, (1, 0, 1))
        self.gives((0, 1, 0), settled_power, (1, 0, 1))

    def test_one_place(self):
        self.gives((0,), power, (0,), 0)
        self.gives((0,), power, (0,), 10 ** 30)
        self.gives((0, 1), lead_and_ring, (0,))
        self.gives((0,), settled_power, (0,))

    def test_all_small_deeds(self):
        for n in (1, 2, 3, 4, 5):
            for deed in list(tuples_of(range(n), repeat=n))[::1 if n < 5 else 7]:
                row, lead = slow_powers(deed)
                ring = len(row) - lead
                self.assertEqual(lead_and_ring(deed), (lead, ring))
                for k in range(12):
                    at = k if k < len(row) else lead + (k - lead) % ring
                    self.assertEqual(power(deed, k), row[at])
                at = lead + (10 ** 30 - lead) % ring
                self.assertEqual(power(deed, 10 ** 30), row[at])
                settled = {told for told in row[1:] + [power(deed, len(row))] if is_settled(told)}
                self.assertEqual(settled, {settled_power(deed)})

    def test_long_leads_and_unlike_rings(self):
        for sizes, lead in (((5, 7, 3, 4), 5), ((24,), 0), ((1,), 23), ((9, 8, 7), 0), ((2, 3, 5, 7), 7),
                            ((11, 13), 0), ((3, 8, 5, 7), 1), ((2, 3), 19), ((2, 1, 1), 20), ((4, 4, 4), 12)):
            deed = rings_and_lead(sizes, lead)
            self.assertEqual(len(deed), 24)
            ring = lcm(*sizes)
            self.gives((lead, ring), lead_and_ring, deed)
            k = next(k for k in range(1, 10 ** 4) if k % ring == 0 and k >= lead)
            self.gives(power(deed, k), settled_power, deed)
            self.assertTrue(is_settled(settled_power(deed)))
            self.gives(power(deed, lead + (10 ** 30 - lead) % ring), power, deed, 10 ** 30)

    def test_changed_sequence_of_places(self):
        dice = random.Random(3)
        for _ in range(60):
            deed = rings_and_lead((dice.randint(1, 6), dice.randint(1, 6), dice.randint(1, 6)), dice.randint(0, 6))
            at = list(range(len(deed)))
            dice.shuffle(at)
            back = {place: k for k, place in enumerate(at)}
            moved = tuple(back[deed[at[k]]] for k in range(len(deed)))
            self.assertEqual(lead_and_ring(moved), lead_and_ring(deed))
            row, lead = slow_powers(moved)
            self.assertEqual(lead_and_ring(moved), (lead, len(row) - lead))

    def test_comes_of_its_square_exactly_if_the_lead_is_at_most_1(self):
        for book in SOME:
            members = heap(book)
            for m in members:
                square = product(m, m)
                comes = any(product(product(x, square), y) == m for x in members for y in members)
                self.assertIs(comes, lead_and_ring(m)[0] <= 1)


class Mending(Case):
    def test_settled_members(self):
        self.gives([(0, 1), (0, 0), (1, 1)], settled_members, B)
        self.gives([(0, 1, 2), (0, 1, 1), (0, 1, 0)], settled_members, E)
        self.gives([(0, 1, 2)], settled_members, (3, ()))
        for book in SOME:
            told = [m for m in heap(book) if product(m, m) == m]
            self.gives(told, settled_members, book)

    def test_example(self):
        book = (3, ((0, 0, 1),))
        self.gives(None, mending_paper, book, (0, 0, 1))
        self.assertIsNone(judge_mending(book, (0, 0, 0), mending_paper(book, (0, 0, 0))))
        self.gives(("mends",), judge_mending, book, (0, 0, 1), ())
        self.gives(None, judge_mending, book, (0, 0, 0), ())

    def test_by_settled_members_of_its_kind(self):
        for book in SOME:
            members = heap(book)
            for way in ("behind", "ahead"):
                for kind in kinds(book, way):
                    wanted = any(is_settled(b) for b in kind)
                    for m in kind:
                        paper = mending_paper(book, m)
                        self.assertIs(paper is not None, wanted)
                        mended = any(product(product(m, x), m) == m for x in members)
                        self.assertIs(mended, wanted)
                        if paper is not None:
                            self.gives(paper, mending_paper, book, m)
                            self.gives(None, judge_mending, book, m, paper)

    def test_judge(self):
        m = (1, 0, 0)
        for value in ANYTHING:
            if not isinstance(value, tuple) or not all(k in (0, 1) and not isinstance(k, bool) for k in value):
                self.gives(("form",), judge_mending, E, m, value)
        for value in ([], [0], (2,), (True,), (0, -1), None, "", {}):
            self.gives(("form",), judge_mending, E, m, value)
        for word in [(), (0,), (1,), (0, 1), (1, 0), (0, 0, 1), (1,) * 2000]:
            x = deed_of(E, word)
            wanted = None if product(product(m, x), m) == m else ("mends",)
            self.gives(wanted, judge_mending, E, m, word)

    def test_400_members(self):
        book = heap_of_400()
        for m in heap(book)[::50]:
            self.gives(None, judge_mending, book, m, mending_paper(book, m))


if __name__ == "__main__":
    unittest.main()
