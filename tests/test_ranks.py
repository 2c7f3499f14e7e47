"""ranks.py: S3.5."""

import unittest
from itertools import combinations

from drawndeeds.books import done, rank
from drawndeeds.heaps import heap
from drawndeeds.ranks import apart_places, judge_rank, least_rank, meeting_pairs, rank_paper
from tests.support import ANYTHING, B, Case, E, MIDDLE, SMALL, heap_of_5040

SOME = SMALL + MIDDLE
CERNY = (8, ((1, 2, 3, 4, 5, 6, 7, 0), (1, 1, 2, 3, 4, 5, 6, 7)))
ALL_MAPS = (8, ((1, 2, 3, 4, 5, 6, 7, 0), (1, 0, 2, 3, 4, 5, 6, 7), (0, 0, 2, 3, 4, 5, 6, 7)))
PAIRED = (8, ((2, 3, 4, 5, 6, 7, 0, 1), (1, 0, 2, 3, 4, 5, 6, 7), (0, 1, 0, 1, 4, 5, 6, 7), (4, 5, 2, 3, 0, 1, 7, 6)))
PAPER = ((0,), (0, 1), ((0, 1),))


class Ranks(Case):
    def test_example(self):
        self.gives([(0, 2), (1, 2)], meeting_pairs, E)
        self.gives(2, least_rank, E)
        self.gives(None, judge_rank, E, PAPER)

    def test_no_letters_and_one_place(self):
        self.gives([], meeting_pairs, (3, ()))
        self.gives(3, least_rank, (3, ()))
        self.gives((0, 1, 2), apart_places, (3, ()))
        self.gives(((), (0, 1, 2), ((0, 1), (0, 2), (1, 2))), rank_paper, (3, ()))
        self.gives([], meeting_pairs, (1, ((0,),)))
        self.gives(1, least_rank, (1, ((0,),)))
        self.gives((0,), apart_places, (1, ()))
        self.gives(((), (0,), ()), rank_paper, (1, ()))

    def test_by_the_heap(self):
        for book in SOME:
            members = heap(book)
            pairs = list(combinations(range(book[0]), 2))
            meet = [(p, q) for p, q in pairs if any(m[p] == m[q] for m in members)]
            self.gives(meet, meeting_pairs, book)
            least = min(rank(m) for m in members)
            self.gives(least, least_rank, book)
            places = apart_places(book)
            self.gives(places, apart_places, book)
            self.assertEqual(len(places), least)
            self.assertFalse(set(combinations(places, 2)) & set(meet))
            sizes = [size for size in range(1, book[0] + 1)
                     if any(not set(combinations(lot, 2)) & set(meet) for lot in combinations(range(book[0]), size))]
            self.assertEqual(max(sizes), least)

    def test_papers(self):
        for book in SOME + [CERNY, ALL_MAPS, PAIRED, heap_of_5040()]:
            paper = rank_paper(book)
            self.gives(paper, rank_paper, book)
            self.gives(None, judge_rank, book, paper)
            self.assertLessEqual(len(paper[0]), 256)
            self.assertEqual(len(paper[1]), least_rank(book))
            self.assertEqual(rank(done(book, paper[0])), least_rank(book))

    def test_great_heaps(self):
        self.gives(1, least_rank, CERNY)
        self.gives(1, least_rank, ALL_MAPS)
        self.gives(7, least_rank, heap_of_5040())
        self.gives(2, least_rank, PAIRED)
        self.assertEqual(len(meeting_pairs(CERNY)), 28)


class JudgeRank(Case):
    def test_form(self):
        for value in ANYTHING:
            self.gives(("form",), judge_rank, E, value)
        word, places, pairs = PAPER
        for value in (list(PAPER), PAPER[:2], PAPER + ((),), ([0], places, pairs), ((2,), places, pairs),
                      ((True,), places, pairs), (word, [0, 1], pairs), (word, (1, 0), pairs), (word, (0, 0), pairs),
                      (word, (0, 3), pairs), (word, (0, True), pairs), (word, places, [(0, 1)]),
                      (word, places, ([0, 1],)), (word, places, ((1, 0),)), (word, places, ((1, 1),)),
                      (word, places, ((0, 1), (0, 1))), (word, places, ((0, 2), (0, 1))), (word, places, ((0, 3),)),
                      (word, places, ((0, 1, 2),)), (word, places, ((0,),)), (word, places, ((False, 1),)),
                      (word, places, ((0, True),)), (word, places, ((-1, 1),)), (None, places, pairs),
                      (word, None, pairs), (word, places, None), (word, places, (None,)), (word, places, "")):
            self.gives(("form",), judge_rank, E, value)

    def test_faults_in_their_order(self):
        self.gives(("rank",), judge_rank, E, ((), (0, 1), ((0, 1),)))
        self.gives(("rank",), judge_rank, E, ((0,), (0,), ()))
        self.gives(("rank",), judge_rank, E, ((0,), (0, 1, 2), ()))
        self.gives(("apart", 0, 1), judge_rank, E, ((0,), (0, 1), ()))
        self.gives(("apart", 0, 1), judge_rank, E, ((0,), (0, 1), ((0, 2),)))
        self.gives(("apart", 0, 2), judge_rank, E, ((), (0, 1, 2), ((0, 1),)))
        self.gives(("apart", 1, 2), judge_rank, E, ((), (0, 1, 2), ((0, 1), (0, 2))))
        self.gives(("step", 1, 0), judge_rank, E, ((), (0, 1, 2), ((0, 1), (0, 2), (1, 2))))
        self.gives(("step", 0, 0), judge_rank, E, ((0,), (0, 2), ((0, 2),)))
        self.gives(("step", 1, 1), judge_rank, E, ((0,), (0, 1), ((0, 1), (1, 2))))
        self.gives(("rank",), judge_rank, B, ((), (), ()))

    def test_a_step_out(self):
        book = (4, ((2, 3, 0, 1), (0, 1, 2, 3)))
        every = ((0, 1), (0, 2), (0, 3), (1, 2), (1, 3), (2, 3))
        self.gives(None, judge_rank, book, ((), (0, 1, 2, 3), every))
        small = (4, ((2, 3, 0, 1), (0, 0, 2, 2)))
        self.gives(("step", 0, 1), judge_rank, small, ((1,), (0, 1), ((0, 1), (2, 3))))
        self.gives(("step", 0, 0), judge_rank, small, ((1,), (0, 3), ((0, 3),)))
        self.gives(("step", 0, 1), judge_rank, small, ((1,), (0, 3), ((0, 3), (1, 2))))
        self.gives(None, judge_rank, small, ((1,), (0, 2), ((0, 2),)))

    def test_right_papers_show_the_least_rank(self):
        for book in SMALL:
            n, deeds = book
            all_pairs = list(combinations(range(n), 2))
            for word in [(), (0,), (1,), (0, 1), (1, 0)]:
                if any(letter >= len(deeds) for letter in word):
                    continue
                for size in range(n + 1):
                    for places in combinations(range(n), size):
                        for mask in range(1 << len(all_pairs)):
                            pairs = tuple(pair for k, pair in enumerate(all_pairs) if mask >> k & 1)
                            fault = judge_rank(book, (word, places, pairs))
                            self.assertEqual(fault, self.slow_fault(book, word, places, pairs))
                            if fault is None:
                                self.assertEqual(size, least_rank(book))

    def slow_fault(self, book, word, places, pairs):
        if rank(done(book, word)) != len(places):
            return ("rank",)
        for p, q in combinations(places, 2):
            if (p, q) not in pairs:
                return ("apart", p, q)
        for k, (p, q) in enumerate(pairs):
            for letter, deed in enumerate(book[1]):
                if tuple(sorted((deed[p], deed[q]))) not in pairs:
                    return ("step", k, letter)
        return None


if __name__ == "__main__":
    unittest.main()
