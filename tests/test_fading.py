"""fading.py: S10.3 to S10.5."""

import random
import unittest

from drawndeeds.ends import ends
from drawndeeds.faces import all_faces, face_of_member, members_of
from drawndeeds.fading import clumps, face_product, fading_paper, is_fading, judge_fading_paper
from drawndeeds.heaps import heap, least_words
from drawndeeds.speeds import times
from drawndeeds.tables import member_table, multiplied, table_of
from tests.bookssupport import EXCHANGE, FALLS, NONE, ONE, Q, SOME, W, put_in, sums_of_400, then
from tests.support import ANYTHING, Case, all_books, deed_of, heap_of_400, words_up_to
from tests.walkssupport import FADING, R, SWAYING, WALKS, constants, fades_slowly, front_first

BOOKS = WALKS + FADING + [NONE, (1, ()), (8, ())]
X = EXCHANGE


def noughts(n):
    return ((0,) * n,) * n


def product_of_all(table, speeds):
    """The product of a table less each speed at each (p, p)."""
    n = len(table)
    made = tuple(tuple(int(p == q) for q in range(n)) for p in range(n))
    for speed in speeds:
        less = [[x - speed * (p == q) for q, x in enumerate(row)] for p, row in enumerate(table)]
        made = multiplied(made, tuple(tuple(row) for row in less))
    return made


class Fading(Case):
    def test_examples(self):
        self.gives(True, is_fading, Q)
        self.gives(None, fading_paper, Q)
        self.gives(False, is_fading, X)
        self.gives(((), 0), fading_paper, X)
        self.gives(None, judge_fading_paper, X, ((), 0))
        self.gives(((0, 1),), clumps, Q)
        self.gives(noughts(2), face_product, Q, (2, 3, 5))

    def test_edges(self):
        for book in (NONE, (1, ()), (8, ()), ONE, front_first(3), constants(6), put_in(6)):
            self.gives(True, is_fading, book)
            self.gives(None, fading_paper, book)
        self.gives(False, is_fading, heap_of_400())
        self.gives(False, is_fading, sums_of_400())
        # A letter that is settled by itself, but not behind another one.
        self.gives(((), 0), fading_paper, (3, ((1, 1, 0), (0, 1, 2))))
        book = (3, ((0, 0, 1), (2, 1, 2), (0, 1, 1)))
        word, letter = self.gives(fading_paper(book), fading_paper, book)
        self.gives(None, judge_fading_paper, book, (word, letter))
        # Two letters with the same deed: the first one is told.
        self.gives(((), 1), fading_paper, (2, ((0, 1), (1, 0), (1, 0))))

    def test_by_the_heap(self):
        for book in BOOKS:
            self.gives(fades_slowly(book), is_fading, book)
            wanted = None
            for member, word in zip(heap(book), least_words(book)):
                for k, x in enumerate(book[1]):
                    if wanted is None and then(then(x, member), x) != then(member, x):
                        wanted = (word, k)
            self.gives(wanted, fading_paper, book)
            if wanted is not None:
                self.gives(None, judge_fading_paper, book, wanted)

    def test_what_holds_in_fading_books(self):
        for book in FADING:
            members = heap(book)
            for a in members:
                self.assertEqual(then(a, a), a)
                self.assertEqual(face_of_member(book, a), tuple(
                    k for k, x in enumerate(book[1]) if then(x, a) == a))
                for b in members[:40]:
                    self.assertEqual(then(then(a, b), a), then(b, a))
            self.assertIsNotNone(times(book))

    def test_fading_papers(self):
        for book in BOOKS[::4] + [X, R, SWAYING]:
            g = len(book[1])
            for word in words_up_to(g, 3 if g < 3 else 2):
                for k in range(g):
                    b, x = deed_of(book, word), book[1][k]
                    right = then(then(x, b), x) != then(b, x)
                    self.gives(None if right else ("same",), judge_fading_paper, book, (word, k))
                    self.assertTrue(not right or not is_fading(book))
        self.gives(None, judge_fading_paper, X, ((0,) * 2000, 0))
        self.gives(("same",), judge_fading_paper, Q, ((0, 1) * 1000, 2))

    def test_no_fading_papers(self):
        for value in ANYTHING:
            self.gives(("form",), judge_fading_paper, X, value)
            if value != 0 or isinstance(value, bool):
                self.gives(("form",), judge_fading_paper, X, ((), value))
            if not isinstance(value, tuple) or value not in ((), (0,)):
                self.gives(("form",), judge_fading_paper, X, (value, 0))
        for bad in (((), 1), ((1,), 0), ((), -1), ((), False), [(), 0], ((),), ((), 0, 0), ([], 0), ((False,), 0)):
            self.gives(("form",), judge_fading_paper, X, bad)
        self.gives(("form",), judge_fading_paper, NONE, ((), 0))


class Products(Case):
    def test_edges(self):
        self.gives(((-1, 1), (1, -1)), face_product, X, (1,))
        self.gives(((0,),), face_product, ONE, (10 ** 6, -10 ** 6))
        self.gives(noughts(7), face_product, put_in(6), (0, 0, -3, 10 ** 6, -10 ** 6, 1))
        self.gives(((-7, 7), (7, -7)), face_product, X, (7,))
        self.gives(((7, -7), (-7, 7)), face_product, X, (-7,))
        self.gives(noughts(2), face_product, X, (0,))
        book = heap_of_400()
        self.gives(product_of_all(table_of(book, (1, 2, 3, 4)), [10]), face_product, book, (1, 2, 3, 4))

    def test_by_faces(self):
        chance = random.Random(131)
        for book in [book for book in BOOKS if len(book[1]) > 0] + [FALLS]:
            for _ in range(3):
                weights = tuple(chance.choice([0, 1, -1, chance.randrange(-10 ** 6, 10 ** 6)]) for _ in book[1])
                speeds = [sum(weights[k] for k in f) for f in all_faces(book)]
                made = self.gives(face_product(book, weights), face_product, book, weights)
                for _ in range(2):
                    chance.shuffle(speeds)
                    self.assertEqual(product_of_all(table_of(book, weights), speeds), made)
                if is_fading(book):
                    self.assertEqual(made, noughts(book[0]))

    def test_noughts_at_member_weights(self):
        chance = random.Random(132)
        for book in [book for book in FADING if len(heap(book)) < 40]:
            members = heap(book)
            weights = tuple(chance.randrange(-20, 20) for _ in members)
            speeds = [sum(w for member, w in zip(members, weights) if member in members_of(book, f))
                      for f in all_faces(book)]
            self.assertEqual(product_of_all(member_table(book, weights), speeds), noughts(book[0]))


class Clumps(Case):
    def test_edges(self):
        self.gives(((0,), (1,), (2,)), clumps, NONE)
        self.gives(((0,),), clumps, ONE)
        self.gives(((0, 1, 2),), clumps, W)
        self.gives(((0, 3), (1,), (2, 4)), clumps, (5, ((3, 1, 2, 3, 2),)))
        self.gives(((0, 1), (2, 3)), clumps, (4, ((0, 0, 3, 3),)))
        # They hang together by others, whichever way letters lead.
        self.gives(((0, 1, 2, 3),), clumps, (4, ((0, 0, 2, 2), (0, 1, 1, 3), (0, 1, 2, 3), (3, 1, 2, 3))))

    def test_what_holds(self):
        for book in BOOKS + SOME + all_books(3, 1):
            found = self.gives(clumps(book), clumps, book)
            self.assertEqual(sorted(p for lot in found for p in lot), list(range(book[0])))
            together = {(p, q) for lot in found for p in lot for q in lot}
            self.assertTrue(all((p, deed[p]) in together for deed in book[1] for p in range(book[0])))
            # And no finer parting does: each lot is all that is met from its first place.
            for lot in found:
                met = {lot[0]}
                for _ in range(book[0]):
                    met |= {q for deed in book[1] for p in range(book[0]) for q in (p, deed[p]) if {p, deed[p]} & met}
                self.assertEqual(tuple(sorted(met)), lot)

    def test_what_holds_in_fading_books(self):
        for book in FADING:
            whole = tuple(range(len(book[1])))
            self.assertEqual(len(clumps(book)), len(ends(book)))
            for member in heap(book):
                if face_of_member(book, member) == whole:
                    self.assertEqual([len({member[p] for p in lot}) for lot in clumps(book)], [1] * len(clumps(book)))
                    self.assertEqual(len(set(member)), len(clumps(book)))


if __name__ == "__main__":
    unittest.main()
