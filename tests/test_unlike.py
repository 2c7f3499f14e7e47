"""unlike.py: S5.3 and S5.5."""

import unittest

from drawndeeds.errors import TooMany
from drawndeeds.unlike import judge_unlike, unlike_words
from tests.bookssupport import (
    EXCHANGE, NONE, OF_SUMS, ONE, SOME, TURNS, W, held_of, sums_of_400, sums_of_500, turns_of_401, unlike_in_lots)
from tests.support import ANYTHING, Case, all_books, heap_of_400, heap_of_5040


class Unlike(Case):
    def test_papers(self):
        for book in SOME + all_books(3, 1) + all_books(3, 2)[::41]:
            pair = unlike_words(book)
            self.assertIs(pair is not None, unlike_in_lots(book))
            if pair is not None:
                self.gives(pair, unlike_words, book)
                self.gives(None, judge_unlike, book, pair)
                self.assertEqual(set(pair[0]), set(pair[1]))
                self.assertNotEqual(held_of(book, pair[0]), held_of(book, pair[1]))
                self.assertLessEqual(max(len(word) for word in pair), 401)

    def test_bound(self):
        for book in (turns_of_401(), sums_of_500(), heap_of_5040()):
            self.refused(TooMany, {}, unlike_words, book)
        self.gives(None, unlike_words, sums_of_400())
        self.gives(None, unlike_words, OF_SUMS)
        pair = unlike_words(heap_of_400())
        self.gives(None, judge_unlike, heap_of_400(), pair)

    def test_late_pairs(self):
        for book in ((6, ((5, 0, 1, 3, 3, 5), (0, 0, 2, 2, 4, 4))), (8, ((2, 1, 2, 0, 3, 4, 6, 6), (7, 1, 1, 2, 4, 4, 5, 7))),
                     (8, ((1, 2, 3, 4, 5, 6, 7, 0),)), (8, ((1, 2, 3, 4, 5, 6, 7, 6),))):
            pair = unlike_words(book)
            self.gives(None, judge_unlike, book, pair)
            self.assertLessEqual(max(len(word) for word in pair), 401)

    def test_greater_heaps_are_judged(self):
        book = heap_of_5040()
        self.gives(None, judge_unlike, book, ((0,), (0,) * 7))
        self.gives(("held",), judge_unlike, book, ((0,), (0, 0)))
        self.gives(("held",), judge_unlike, sums_of_500(), ((0, 3), (3, 0, 3)))
        self.gives(("lot",), judge_unlike, turns_of_401(), ((0,), ()))

    def test_examples(self):
        self.gives(None, judge_unlike, EXCHANGE, ((0,), (0, 0)))
        self.gives(None, judge_unlike, EXCHANGE, ((0,) * 2000, (0,) * 1999))
        self.gives(("held",), judge_unlike, EXCHANGE, ((0,), (0, 0, 0)))
        self.gives(("held",), judge_unlike, W, ((0, 1), (1, 0)))
        self.gives(("lot",), judge_unlike, W, ((0, 1), (1,)))
        self.gives(("lot",), judge_unlike, W, ((), (1,)))
        self.gives(("held",), judge_unlike, NONE, ((), ()))
        self.gives(("form",), judge_unlike, NONE, ((), (0,)))
        self.gives(("held",), judge_unlike, ONE, ((0, 1), (1, 0)))
        pair = unlike_words(TURNS)
        self.gives(None, judge_unlike, TURNS, pair)

    def test_form(self):
        for value in ANYTHING + [((0,),), ((0,), (0, 0), ()), ((0,), [0, 0]), [(0,), (0, 0)], ((0,), (0, True)),
                                 ((False,), (0, 0)), ((0,), (1,)), ((0,), (-1,)), ((0,), None), ("", ())]:
            self.gives(("form",), judge_unlike, EXCHANGE, value)


if __name__ == "__main__":
    unittest.main()
