"""books.py: S1.1 and S1.2."""

import unittest

from drawndeeds.books import (
    check_book, check_deed, check_lot, check_word, done, held, idle, is_settled, product, rank, reach)
from drawndeeds.errors import BadTree
from tests.support import ANYTHING, B, Case, MIDDLE, SMALL, all_books, deed_of, words_up_to


class Checks(Case):
    def bad(self, path, call, *given):
        self.refused(BadTree, {"path": path}, call, *given)

    def test_right_books(self):
        for book in SMALL + MIDDLE:
            self.gives(None, check_book, book)
        self.gives(None, check_book, (8, ((0,) * 8,) * 6))
        self.gives(None, check_book, (10 ** 299, ()))

    def test_document_paths(self):
        self.bad((1, 1, 1), check_book, (2, ((0, 1), (0, 2), 5)))
        self.bad((1, 0), check_book, (2, ((0,), 5)))
        self.bad((1, 1, 1), check_book, (2, ((0, 1), (0, 2))))

    def test_wrong_books(self):
        for value in (None, True, 2, "", (), (2,), (2, (), ()), [2, ()], {}, {0: 2, 1: ()}):
            self.bad((), check_book, value)
        for n in (0, -1, True, False, None, "2", (), (2,), -(10 ** 299)):
            self.bad((0,), check_book, (n, ((0, 1),)))
            self.bad((0,), check_book, (n, None))
        for deeds in (None, True, 0, [], [(0, 1)], {}, "ab"):
            self.bad((1,), check_book, (2, deeds))
        for deed in (None, 5, True, (), (0,), (0, 1, 1), [0, 1], "01", {0: 0, 1: 1}):
            self.bad((1, 0), check_book, (2, (deed,)))
            self.bad((1, 2), check_book, (2, ((0, 0), (1, 1), deed, 5)))
        for place in (2, -1, True, False, None, "0", (), (0,), 10 ** 299):
            self.bad((1, 1, 0), check_book, (2, ((0, 0), (place, 9))))
            self.bad((1, 0, 1), check_book, (2, ((0, place),)))

    def test_deeds(self):
        self.gives(None, check_deed, 1, (0,))
        self.gives(None, check_deed, 3, (2, 2, 0))
        for value in (None, 0, (), (0,), (0, 0, 0), [0, 1], "01"):
            self.bad((), check_deed, 2, value)
        self.bad((0,), check_deed, 2, (2, 5))
        self.bad((1,), check_deed, 2, (1, True))
        self.bad((2,), check_deed, 3, (1, 2, -1))
        self.bad((), check_deed, 10 ** 299, (0,))

    def test_words(self):
        self.gives(None, check_word, 0, ())
        self.gives(None, check_word, 2, (0, 1, 1, 0))
        self.gives(None, check_word, 6, (5,) * 2000)
        for value in (None, 0, [], [0], "", {}):
            self.bad((), check_word, 2, value)
        self.bad((0,), check_word, 0, (0,))
        for letter in (2, -1, True, False, None, "a", (), (0,), [0], 10 ** 299):
            self.bad((2,), check_word, 2, (0, 1, letter, 7))

    def test_lots(self):
        for lot in ((), (0,), (2,), (0, 2), (0, 1, 2)):
            self.gives(None, check_lot, 3, lot)
        for value in (None, 1, [], [0, 1], "", {}):
            self.bad((), check_lot, 3, value)
        self.bad((0,), check_lot, 0, (0,))
        self.bad((1,), check_lot, 3, (1, 1))
        self.bad((1,), check_lot, 3, (1, 0))
        self.bad((2,), check_lot, 3, (0, 2, 1, 9))
        self.bad((2,), check_lot, 3, (0, 1, 3))
        for letter in (3, -1, False, None, "a", (0,), 10 ** 299):
            self.bad((0,), check_lot, 3, (letter,))
        self.bad((1,), check_lot, 3, (0, True, 2))

    def test_anything(self):
        for value in ANYTHING:
            for call, given in ((check_book, (value,)), (check_deed, (2, value)), (check_word, (2, value)),
                                (check_lot, (2, value))):
                try:
                    self.assertIsNone(call(*given))
                except BadTree as error:
                    self.assertIsInstance(error.path, tuple)


class Deeds(Case):
    def test_idle(self):
        self.gives((0,), idle, 1)
        self.gives((0, 1, 2), idle, 3)

    def test_product_does_the_first_first(self):
        self.gives((0, 0, 2), product, (1, 1, 2), (2, 0, 2))
        self.gives((1, 1), product, (1, 0), (1, 1))
        self.gives((1, 1), product, (0, 0), (1, 0))
        self.gives((0, 0), product, (1, 0), (0, 0))

    def test_done(self):
        self.gives((0, 1), done, B, ())
        self.gives((1, 1), done, B, (1, 0))
        self.gives((0, 0), done, B, (0, 1))
        self.gives((0,), done, (1, ()), ())
        self.gives((0, 1), done, B, (0,) * 2000)

    def test_done_place_by_place(self):
        for book in SMALL[::5] + MIDDLE:
            for word in words_up_to(len(book[1]), 3):
                self.assertEqual(done(book, word), deed_of(book, word))

    def test_word_behind_word(self):
        for book in all_books(2, 2):
            words = words_up_to(2, 3)
            for v in words:
                for w in words:
                    self.assertEqual(done(book, v + w), product(done(book, v), done(book, w)))

    def test_held_reach_rank(self):
        self.gives((1, 3), held, (1, 1, 3, 3))
        self.gives((), held, (1, 0))
        self.gives((0,), held, (0,))
        self.gives((1, 3), reach, (3, 1, 3, 1))
        self.gives((0, 2), reach, (2, 0, 0))
        self.gives(2, rank, (3, 1, 3, 1))
        self.gives(1, rank, (0,))
        self.gives(8, rank, (7, 6, 5, 4, 3, 2, 1, 0))

    def test_settled(self):
        self.gives(True, is_settled, (0, 1, 0))
        self.gives(True, is_settled, (0, 1, 2))
        self.gives(False, is_settled, (1, 0, 1))
        self.gives(False, is_settled, (0, 0, 1))

    def test_rank_of_products(self):
        for book in all_books(3, 2)[::5]:
            a, b = book[1]
            self.assertLessEqual(rank(product(a, b)), min(rank(a), rank(b)))

    def test_settled_exactly_if_the_reach_is_held(self):
        for n in (1, 2, 3, 4):
            for _, (deed,) in all_books(n, 1):
                self.assertIs(is_settled(deed), all(deed[p] == p for p in reach(deed)))
                if is_settled(deed):
                    self.assertEqual(len(held(deed)), rank(deed))


if __name__ == "__main__":
    unittest.main()
