"""ends.py: S8.1 and S8.2."""

import random
import unittest

from drawndeeds.ends import comes_to, end_paper, ends, judge_end_paper, way_into
from drawndeeds.keptlots import kept_lots
from tests.bookssupport import EXCHANGE, FALLS, NONE, ONE, OF_SUMS, SOME, W
from tests.support import ANYTHING, Case, deed_of, heap_of_5040, words_up_to
from tests.test_alike import FALL
from tests.test_keptlots import ALL_MAPS, SQUARE, come_from

L = (4, ((0, 2, 3, 3), (0, 0, 1, 3)))
R = (3, ((1, 2, 0), (1, 0, 0)))
SEVERAL = (7, ((1, 0, 2, 3, 5, 4, 2), (0, 1, 2, 2, 4, 5, 4)))
BOOKS = SOME + [SQUARE, L, R, SEVERAL, FALLS]


def slow_ends(book):
    """The kept lots that have no lesser one in them."""
    lots = kept_lots(book)
    return tuple(lot for lot in lots if not any(set(other) < set(lot) for other in lots))


def first_way(book, p, lot):
    for word in words_up_to(len(book[1]), book[0] if len(book[1]) < 3 else 4):
        if deed_of(book, word)[p] in lot:
            return word
    return None


class Ends(Case):
    def test_examples(self):
        self.gives(((0,), (3,)), ends, L)
        self.gives(((0, 1, 2),), ends, R)
        self.gives(((0, 1), (2,), (4, 5)), ends, SEVERAL)

    def test_edges(self):
        self.gives(((0,), (1,), (2,)), ends, NONE)
        self.gives(((0,),), ends, ONE)
        self.gives((tuple(range(8)),), ends, ALL_MAPS)
        self.gives((tuple(range(7)),), ends, heap_of_5040())
        self.gives((1,), comes_to, NONE, 1)
        self.gives((), way_into, NONE, 1, (1,))
        self.gives(None, way_into, NONE, 1, (0, 2))
        self.gives(None, way_into, R, 1, ())
        self.gives((), way_into, R, 1, (0, 1))

    def test_what_is_come_to(self):
        for book in BOOKS:
            for p in range(book[0]):
                self.gives(tuple(sorted(come_from(book, p))), comes_to, book, p)

    def test_ends(self):
        for book in BOOKS:
            found = self.gives(slow_ends(book), ends, book)
            self.assertEqual(len({p for lot in found for p in lot}), sum(len(lot) for lot in found))
            for p in range(book[0]):
                self.assertTrue(any(set(lot) <= come_from(book, p) for lot in found))

    def test_ways(self):
        chance = random.Random(71)
        for book in BOOKS:
            for p in range(book[0]):
                for _ in range(3):
                    lot = tuple(q for q in range(book[0]) if chance.random() < 0.4)
                    word = self.gives(way_into(book, p, lot), way_into, book, p, lot)
                    self.assertIs(word is None, not come_from(book, p) & set(lot))
                    if len(book[1]) < 3:
                        self.assertEqual(word, first_way(book, p, lot))
        self.gives((0,) * 7, way_into, (8, ((1, 2, 3, 4, 5, 6, 7, 7), (0,) * 8)), 0, (7,))


class Papers(Case):
    def test_papers(self):
        for book in BOOKS + [OF_SUMS, ALL_MAPS, heap_of_5040()]:
            paper = self.gives(end_paper(book), end_paper, book)
            self.gives(None, judge_end_paper, book, paper)
            self.plain(ends(book), paper[0])
            self.assertTrue(all(len(word) <= 200 for pair in paper[1] for word in pair if word is not None))

    def test_faults_in_their_sequence(self):
        lots = ((0,), (3,))
        words = (((), ()), ((1,), None), ((0,), None), ((), ()))
        self.gives(None, judge_end_paper, L, (lots, words))
        self.gives(None, judge_end_paper, L, (lots, (((0, 1), (1,)), ((0, 0), None), ((0,) * 2000, None), ((), (0,)))))
        self.gives(("kept", 0), judge_end_paper, L, (((0, 1), (3,)), (((), ()), ((), ()), ((0,), None), ((), ()))))
        self.gives(("kept", 1), judge_end_paper, L, (((0,), (1, 2), (3,)), (((), ()), ((), ()), ((), ()), ((), ()))))
        self.gives(("there", 1), judge_end_paper, L, (lots, (((), ()), ((0,), None), ((), None), ((), ()))))
        self.gives(("there", 3), judge_end_paper, L, (((0,),), (((), ()), ((1,), None), ((1, 1), None), ((), None))))
        # A lot of more than an end is kept, but its first place is not come to from everywhere.
        self.gives(("there", 3), judge_end_paper, L, (
            ((0, 1, 2, 3),), (((), ()), ((1,), ()), ((1, 1), ()), ((0,), ()))))
        self.gives(("back", 1), judge_end_paper, R, (((0, 1, 2),), (((), ()), ((1,), ()), ((0,), ()))))
        self.gives(("back", 2), judge_end_paper, R, (((0, 1, 2),), (((), ()), ((1,), (0,)), ((0,), (0,)))))
        self.gives(("there", 2), judge_end_paper, R, (((0, 1, 2),), (((), (0,)), ((1,), (1, 1)), ((), (0,)))))

    def test_form(self):
        right = end_paper(L)
        lots, words = right
        for value in ANYTHING:
            self.gives(("form",), judge_end_paper, L, value)
            self.gives(("form",), judge_end_paper, L, (value, words))
            self.gives(("form",), judge_end_paper, L, (lots, value))
            if value is not None:
                self.gives(("form",), judge_end_paper, L, (lots, words[:1] + ((words[1][0], value),) + words[2:]))
            if value not in ((), (0,), (1,), (0, 1), (1, 0)) or isinstance(value, list):
                self.gives(("form",), judge_end_paper, L, (lots, ((value, ()),) + words[1:]))
                self.gives(("form",), judge_end_paper, L, (lots, (((), value),) + words[1:]))
        for bad in (list(right), right + ((),), (lots,), (lots + ((),), words), (((3,), (0,)), words), (((0,), (0,)), words),
                    (((0, 3), (3,)), words), (((0,), (4,)), words), (((0,), (True,)), words), (((0,), [3]), words),
                    ((), words), (lots, words[:3]), (lots, words + words[:1]), (lots, list(words)),
                    (lots, words[:3] + (((), None),)), (lots, words[:3] + (((),),)), (lots, words[:3] + (((), (), ()),)),
                    (lots, words[:3] + (((2,), ()),)), (lots, words[:3] + ([(), ()],)), (((0, 0), (3,)), words),
                    (((1, 0), (3,)), words), (((-1,), (3,)), words)):
            self.gives(("form",), judge_end_paper, L, bad)

    def test_right_papers_have_all_ends(self):
        chance = random.Random(72)
        for book in (L, R, W, EXCHANGE, FALL, SEVERAL, NONE):
            n = book[0]
            for _ in range(200):
                places = list(range(n))
                chance.shuffle(places)
                lots = []
                for p in places[:chance.randrange(1, n + 1)]:
                    if lots and chance.random() < 0.5:
                        lots[-1] = tuple(sorted(lots[-1] + (p,)))
                    else:
                        lots.append((p,))
                lots = tuple(sorted(lots))
                firsts = tuple(lot[0] for lot in lots)
                words = tuple((way_into(book, p, firsts) or (), next(
                    (way_into(book, lot[0], (p,)) or () for lot in lots if p in lot), None)) for p in range(n))
                self.assertIs(judge_end_paper(book, (lots, words)) is None, lots == ends(book))


if __name__ == "__main__":
    unittest.main()
