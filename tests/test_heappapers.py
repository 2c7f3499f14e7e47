"""heappapers.py: heap papers of S1.4 and shut lists of S1.5."""

import unittest
from itertools import product as tuples_of

from drawndeeds.books import product
from drawndeeds.heappapers import heap_paper, judge_heap, judge_shut_list, shut_list
from drawndeeds.heaps import heap, least_words
from tests.support import ANYTHING, B, Case, E, MIDDLE, SMALL, all_books, heap_of_400, words_up_to

PAPER = (((0, 1), ()), ((1, 0), (0,)), ((0, 0), (1,)), ((1, 1), (1, 0)))


class HeapPapers(Case):
    def test_right_papers(self):
        self.gives(PAPER, heap_paper, B)
        self.gives((((0, 1, 2), ()),), heap_paper, (3, ()))
        for book in SMALL + MIDDLE + [heap_of_400()]:
            paper = heap_paper(book)
            self.assertEqual(paper, tuple(zip(heap(book), least_words(book))))
            self.assertIsNone(judge_heap(book, paper))

    def test_form(self):
        wrong = [value for value in ANYTHING if value not in ((), (((0, 1), ()),))]
        for value in wrong:
            self.gives(("form",), judge_heap, B, value)
        for pair in ANYTHING:
            if pair != ((0, 1), ()):
                self.gives(("form",), judge_heap, B, PAPER[:2] + (pair,))
                self.gives(("form",), judge_heap, B, (pair,) + PAPER)
        for pair in ([(0, 1), ()], ((0, 1),), ((0, 1), (), ()), ([0, 1], ()), ((0, 1), []), ((False, 1), ()),
                     ((0, True), ()), ((0, 2), ()), ((0, 1, 0), ()), ((0, 1), (2,)), ((0, 1), (True,)),
                     ((0, 1), (-1,)), ((0, 1), None), (None, ())):
            self.gives(("form",), judge_heap, B, (pair,))
            self.gives(("form",), judge_heap, B, (((1, 1), ()), pair))
        self.gives(("form",), judge_heap, B, list(PAPER))

    def test_first(self):
        self.gives(("first",), judge_heap, B, ())
        self.gives(("first",), judge_heap, B, (((1, 0), ()),) + PAPER[1:])
        self.gives(("first",), judge_heap, B, (((0, 1), (0, 0)),) + PAPER[1:])
        self.gives(("first",), judge_heap, B, PAPER[1:])
        self.gives(("first",), judge_heap, (3, ()), ())

    def test_order(self):
        self.gives(("order", 1), judge_heap, B, (PAPER[0], PAPER[0]))
        self.gives(("order", 2), judge_heap, B, (PAPER[0], PAPER[2], PAPER[1], PAPER[3]))
        self.gives(("order", 3), judge_heap, B, PAPER[:3] + (((0, 0), (1,)),))
        self.gives(("order", 4), judge_heap, B, PAPER + (((1, 1), (0,)), ((1, 1), ())))
        # An order that is not kept is told ahead of a pair that is not made, though this one stands first.
        self.gives(("order", 2), judge_heap, B, (PAPER[0], ((1, 1), (1, 1)), PAPER[1]))

    def test_made(self):
        self.gives(("made", 1), judge_heap, B, (PAPER[0], ((0, 0), (0,))))
        self.gives(("made", 1), judge_heap, B, (PAPER[0], ((0, 0), (0, 1))))
        self.gives(("made", 3), judge_heap, B, PAPER[:3] + (((1, 0), (1, 0)),))
        self.gives(("made", 2), judge_heap, B, (PAPER[0], PAPER[1], ((1, 1), (1, 0))))
        # Ahead of a deed that stands twice earlier in the paper.
        twice = ((0, 1), (0, 0))
        self.gives(("made", 3), judge_heap, B, PAPER[:2] + (twice, ((1, 1), (1, 1))))

    def test_made_of_a_pair_ahead(self):
        book = (2, ((1, 0), (0, 0)))
        paper = (PAPER[0], ((0, 0), (1,)), ((0, 1), (0, 0)))
        self.gives(("made", 2), judge_heap, book, paper)

    def test_twice(self):
        twice = ((0, 1), (0, 0))
        self.gives(("twice", 2), judge_heap, B, PAPER[:2] + (twice,))
        again = ((0, 0), (0, 1))
        self.gives(("twice", 3), judge_heap, B, PAPER[:3] + (again,))
        self.gives(("twice", 3), judge_heap, B, PAPER[:3] + (again, PAPER[3]))
        alike = (2, ((0, 0), (0, 0)))
        self.gives(("twice", 2), judge_heap, alike, (((0, 1), ()), ((0, 0), (0,)), ((0, 0), (1,))))

    def test_shut(self):
        self.gives(("shut", 0, 1), judge_heap, B, PAPER[:2])
        self.gives(("shut", 0, 0), judge_heap, B, PAPER[:1])
        self.gives(("shut", 2, 0), judge_heap, B, PAPER[:3])
        self.gives(("shut", 0, 0), judge_heap, B, (PAPER[0], PAPER[2], PAPER[3]))

    def test_shut_by_a_word_that_is_too_late(self):
        alike = (2, ((0, 0), (0, 0)))
        self.gives(("shut", 0, 0), judge_heap, alike, (((0, 1), ()), ((0, 0), (1,))))
        self.gives(None, judge_heap, alike, (((0, 1), ()), ((0, 0), (0,))))
        # All members with words that do them, but (1, 1) by (0, 1) where (1, 0) ascends ahead.
        book = (2, ((0, 0), (1, 1), (1, 0)))
        paper = heap_paper(book)
        self.assertEqual([word for _, word in paper], [(), (0,), (1,), (2,)])
        late = (paper[0], paper[1], paper[3], ((1, 1), (0, 2)))
        self.gives(("shut", 0, 1), judge_heap, book, late)

    def test_right_exactly_if_no_fault(self):
        for book in all_books(2, 1) + all_books(2, 2):
            deeds = sorted(set(heap(book)) | {(1, 1), (0, 1)})
            words = words_up_to(len(book[1]), 1) + [(0, 0), (1, 0)][:len(book[1])]
            pairs = list(tuples_of(deeds, words))
            right = heap_paper(book)
            papers = [(), right, right[:-1], right + right[:1]]
            papers += [right[:k] + (pair,) + right[k + 1:] for k in range(len(right)) for pair in pairs]
            papers += [right[:k] + (pair,) + right[k:] for k in range(len(right) + 1) for pair in pairs]
            for paper in papers:
                self.assertIs(judge_heap(book, paper) is None, paper == right)


class ShutLists(Case):
    def test_lists_that_are_returned(self):
        for book in SMALL + MIDDLE:
            n = book[0]
            members = heap(book)
            deeds = list(tuples_of(range(n), repeat=n)) if n < 4 else [(0,) * n, tuple(reversed(range(n)))]
            for deed in deeds:
                found = shut_list(book, deed)
                self.assertIs(found is None, deed in members)
                if found is not None:
                    self.assertIsInstance(found, tuple)
                    self.assertIs(judge_shut_list(book, deed, found), True)
                self.assertIs(judge_shut_list(book, deed, members), deed not in members)

    def test_repeated(self):
        self.assertEqual(shut_list(E, (2, 2, 2)), shut_list(E, (2, 2, 2)))
        self.gives(None, shut_list, E, (0, 1, 2))

    def test_judged(self):
        book = (2, ((0, 0),))
        self.gives(True, judge_shut_list, book, (1, 0), ((0, 1), (0, 0)))
        self.gives(True, judge_shut_list, book, (1, 0), ((0, 0), (0, 1)))
        self.gives(True, judge_shut_list, book, (1, 0), ((0, 0), (1, 1), (0, 1)))
        self.gives(False, judge_shut_list, book, (1, 1), ((0, 0), (1, 1), (0, 1)))
        self.gives(False, judge_shut_list, book, (0, 0), ((0, 1), (0, 0)))
        self.gives(False, judge_shut_list, book, (1, 0), ((0, 1), (0, 0), (0, 1)))
        self.gives(False, judge_shut_list, book, (1, 0), ((0, 0),))
        self.gives(False, judge_shut_list, book, (1, 0), ((0, 1),))
        self.gives(False, judge_shut_list, book, (1, 0), ((0, 1), (0, 0), (1, 0)))
        self.gives(False, judge_shut_list, book, (1, 0), ())
        self.gives(True, judge_shut_list, (2, ()), (1, 0), ((0, 1), (1, 1)))

    def test_wrong_values(self):
        book = (2, ((0, 0),))
        for value in ANYTHING + [[(0, 1), (0, 0)], ((0, 1), (False, 0)), ((0, 1), [0, 0]), ((0, 1), (0, 0), (0, 2)),
                                 ((0, 1), (0, 0), (0,)), ((False, True), (0, 0)), ((0, 1), (0, 0), None)]:
            self.gives(False, judge_shut_list, book, (1, 0), value)

    def test_no_word_does_it_exactly_if_some_shut_list_lacks_it(self):
        deeds = list(tuples_of(range(2), repeat=2))
        for book in all_books(2, 2):
            members = heap(book)
            for deed in deeds:
                lists = [tuple(d for k, d in enumerate(deeds) if mask >> k & 1) for mask in range(16)]
                found = any(judge_shut_list(book, deed, value) for value in lists)
                self.assertIs(found, deed not in members)
                for value in lists:
                    shut = (0, 1) in value and deed not in value
                    shut = shut and all(product(d, step) in value for d in value for step in book[1])
                    self.assertIs(judge_shut_list(book, deed, value), shut)


if __name__ == "__main__":
    unittest.main()
