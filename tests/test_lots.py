"""lots.py: S1.6 and S1.7."""

import unittest
from itertools import combinations

from drawndeeds.books import held, rank
from drawndeeds.errors import UnlikeLetters
from drawndeeds.heaps import heap, least_words
from drawndeeds.lots import cut, does_book, side_by_side, tight_lots, words_for
from drawndeeds.words import is_ahead
from tests.support import B, Case, E, MIDDLE, RING, SMALL, all_books, deed_of, heap_of_400, words_up_to

THREE = (2, ((1, 0), (0, 0), (1, 1)))


def lots_of(g):
    return [lot for size in range(g + 1) for lot in combinations(range(g), size)]


class LettersLeftOut(Case):
    def test_cut(self):
        self.gives((2, ((1, 0), (1, 1))), cut, THREE, (0, 2))
        self.gives((2, ()), cut, THREE, ())
        self.gives(THREE, cut, THREE, (0, 1, 2))
        self.gives((1, ()), cut, (1, ()), ())

    def test_examples(self):
        self.gives([(0, 1), (0, 2)], tight_lots, THREE)
        self.gives([(0,), (1,), (1, 0)], words_for, THREE, (0, 1))
        self.gives([(0, 1), (2,)], tight_lots, RING)

    def test_no_letters_and_alike_deeds(self):
        self.gives([()], tight_lots, (3, ()))
        self.gives([()], tight_lots, (1, ((0,), (0,))))
        self.gives([()], tight_lots, (2, ((0, 1),)))
        self.gives([(0,), (1,)], tight_lots, (2, ((1, 0), (1, 0))))
        self.gives([(), ()], words_for, (1, ((0,), (0,))), ())
        self.gives([], words_for, (3, ()), ())
        self.gives([None, None, None], words_for, THREE, ())
        self.gives([(1,), (1,)], words_for, (2, ((0, 0), (0, 0))), (1,))
        self.gives([None, (1,), None], words_for, THREE, (1,))

    def test_does_book(self):
        self.gives(True, does_book, THREE, (0, 2))
        self.gives(False, does_book, THREE, (1, 2))
        self.gives(False, does_book, THREE, ())
        self.gives(True, does_book, (3, ()), ())
        self.gives(True, does_book, (2, ((0, 1),)), ())

    def test_by_members(self):
        for book in SMALL + MIDDLE:
            g = len(book[1])
            members = set(heap(book))
            doing = {}
            for lot in lots_of(g):
                doing[lot] = set(heap(cut(book, lot))) == members
                self.assertIs(does_book(book, lot), doing[lot])
                self.assertIs(all(word is not None for word in words_for(book, lot)), doing[lot])
            tight = [lot for lot in doing if doing[lot]
                     and not any(doing[lot[:k] + lot[k + 1:]] for k in range(len(lot)))]
            self.assertEqual(tight_lots(book), sorted(tight))
            for lot in doing:
                self.assertIs(doing[lot], any(set(less) <= set(lot) for less in tight))

    def test_words_for_are_the_least_ones(self):
        for book in all_books(2, 2) + [THREE]:
            for lot in lots_of(len(book[1])):
                words = [word for word in words_up_to(len(book[1]), 4) if set(word) <= set(lot)]
                for letter, found in enumerate(words_for(book, lot)):
                    doing = [word for word in words if deed_of(book, word) == book[1][letter]]
                    self.assertEqual(found, doing[0] if doing else None)

    def test_members_and_least_words_of_the_cut_book(self):
        for book in all_books(2, 2) + MIDDLE[:3]:
            words = dict(zip(heap(book), least_words(book)))
            for lot in lots_of(len(book[1])):
                small = cut(book, lot)
                for member, word in zip(heap(small), least_words(small)):
                    named = tuple(lot[k] for k in word)
                    if set(words[member]) <= set(lot):
                        self.assertEqual(named, words[member])
                    else:
                        self.assertTrue(is_ahead(words[member], named))

    def test_six_letters(self):
        book = (8, tuple((k,) * 8 for k in range(6)))
        self.gives([(0, 1, 2, 3, 4, 5)], tight_lots, book)
        self.gives([(0, 1, 2, 3)], tight_lots, heap_of_400())


class SideBySide(Case):
    def test_both(self):
        self.gives((5, ((1, 0, 3, 2, 3), (0, 0, 2, 3, 3))), side_by_side, B, E)
        self.gives((5, ((1, 0, 1, 4, 3), (0, 1, 1, 3, 3))), side_by_side, E, B)
        self.gives((3, ()), side_by_side, (1, ()), (2, ()))

    def test_greatest(self):
        one = (8, tuple(tuple((p + k) % 8 for p in range(8)) for k in range(6)))
        both = side_by_side(one, one)
        self.assertEqual(both[0], 16)
        self.assertEqual(both[1][3], tuple((p + 3) % 8 for p in range(8)) + tuple(8 + (p + 3) % 8 for p in range(8)))
        self.assertEqual(len(heap(both)), 8)
        self.assertEqual(side_by_side(both, one)[0], 24)

    def test_unlike_letters(self):
        self.refused(UnlikeLetters, {}, side_by_side, B, THREE)
        self.refused(UnlikeLetters, {}, side_by_side, THREE, B)
        self.refused(UnlikeLetters, {}, side_by_side, (1, ()), (1, ((0,),)))

    def test_what_holds(self):
        books = all_books(2, 2)
        for one in books:
            for other in books[::3]:
                both = side_by_side(one, other)
                words = words_up_to(2, 3)
                told = [deed_of(both, word) for word in words]
                pairs = [(deed_of(one, word), deed_of(other, word)) for word in words]
                for deed, (a, b) in zip(told, pairs):
                    self.assertEqual(len(held(deed)), len(held(a)) + len(held(b)))
                    self.assertEqual(rank(deed), rank(a) + rank(b))
                self.assertEqual(len(set(told)), len(set(pairs)))
                sizes = len(heap(one)), len(heap(other))
                self.assertTrue(max(sizes) <= len(heap(both)) <= sizes[0] * sizes[1])
                self.assertTrue(set(least_words(one)) | set(least_words(other)) <= set(least_words(both)))


if __name__ == "__main__":
    unittest.main()
