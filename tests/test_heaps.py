"""heaps.py: S1.3 and S1.4."""

import unittest

from drawndeeds.books import product
from drawndeeds.errors import NoMember, TooMany
from drawndeeds.heaps import grown, heap, least_word, least_words, left_steps, number_of, right_steps
from drawndeeds.words import is_ahead
from tests.support import (
    ANYTHING, B, Case, E, MIDDLE, SMALL, apart_books, deed_of, heap_of_2000, heap_of_400, heap_of_5040, slow_heap)


class Heaps(Case):
    def test_document_example(self):
        self.gives(((0, 1), (1, 0), (0, 0), (1, 1)), heap, B)
        self.gives([(), (0,), (1,), (1, 0)], least_words, B)
        self.gives([[1, 2], [0, 2], [3, 2], [2, 2]], right_steps, B)
        self.gives([[1, 2], [0, 3], [2, 2], [3, 3]], left_steps, B)
        self.gives(((0, 1, 2), (1, 0, 1), (0, 1, 1), (0, 1, 0), (1, 0, 0)), heap, E)
        self.gives([(), (0,), (1,), (0, 0), (1, 0)], least_words, E)

    def test_no_letters_one_place_alike_deeds(self):
        self.gives(((0, 1, 2),), heap, (3, ()))
        self.gives([()], least_words, (3, ()))
        self.gives([[]], right_steps, (3, ()))
        self.gives([[]], left_steps, (3, ()))
        self.gives(((0,),), heap, (1, ((0,), (0,))))
        self.gives([[0, 0]], right_steps, (1, ((0,), (0,))))
        self.gives([(), (1,)], least_words, (2, ((0, 1), (1, 0), (1, 0))))

    def test_by_looking_at_all_words(self):
        for book in SMALL + MIDDLE[:-1]:
            found = slow_heap(book)
            self.assertEqual(dict(zip(heap(book), least_words(book))), found)
            self.assertEqual(len(heap(book)), len(found))

    def test_members_ascend_by_least_words(self):
        for book in SMALL + MIDDLE:
            words = least_words(book)
            self.assertTrue(all(is_ahead(a, b) for a, b in zip(words, words[1:])))
            self.assertTrue(all(len(word) < len(words) for word in words))
            self.assertEqual([deed_of(book, word) for word in words], list(heap(book)))
            for word in words:
                for i in range(len(word)):
                    for j in range(i, len(word) + 1):
                        self.assertIn(word[i:j], words)

    def test_steps(self):
        for book in SMALL + MIDDLE:
            members = heap(book)
            right = [[members.index(product(m, d)) for d in book[1]] for m in members]
            left = [[members.index(product(d, m)) for d in book[1]] for m in members]
            self.assertEqual(right_steps(book), right)
            self.assertEqual(left_steps(book), left)

    def test_numbers_and_words_of_members(self):
        for book in SMALL[::3] + MIDDLE:
            members, words = heap(book), least_words(book)
            for k, member in enumerate(members):
                self.assertEqual(number_of(book, member), k)
                self.assertEqual(least_word(book, member), words[k])
        self.gives(3, number_of, B, (1, 1))
        self.gives((1, 0), least_word, B, (1, 1))
        self.gives((), least_word, (3, ()), (0, 1, 2))

    def test_no_members(self):
        others = [(0, 2), (0,), (0, 1, 1), (True, 0), (1, False), (True, True), [0, 1], [1, 0], "01"]
        others += [value for value in ANYTHING if value not in heap(B) or isinstance(value[0], bool)]
        for value in others:
            self.refused(NoMember, {"deed": value}, number_of, B, value)
            self.refused(NoMember, {"deed": value}, least_word, B, value)
        self.refused(NoMember, {"deed": (1, 0)}, number_of, (2, ((0, 0),)), (1, 0))
        self.refused(NoMember, {"deed": (1, 0)}, least_word, (2, ()), (1, 0))

    def test_the_very_value_is_kept(self):
        value = [0, 1]
        with self.assertRaises(NoMember) as caught:
            number_of(B, value)
        self.assertIs(caught.exception.deed, value)

    def test_bound(self):
        self.assertEqual(len(heap(heap_of_2000())), 2000)
        self.assertEqual(len(least_words(heap_of_2000())), 2000)
        more = apart_books(heap_of_2000(), (2, ((1, 1),)))
        all_maps = (8, ((1, 2, 3, 4, 5, 6, 7, 0), (1, 0, 2, 3, 4, 5, 6, 7), (0, 0, 2, 3, 4, 5, 6, 7)))
        for book in (heap_of_5040(), more, all_maps):
            self.refused(TooMany, {}, heap, book)
            self.refused(TooMany, {}, least_words, book)

    def test_2001_members(self):
        # A place that goes as place 0 does is held by no word but (): one member more.
        n, deeds = heap_of_2000()
        book = (n + 1, tuple(deed + (deed[0],) for deed in deeds))
        self.assertEqual(len(grown(book)[0]), 2001)
        self.refused(TooMany, {}, heap, book)
        self.refused(TooMany, {}, least_words, book)

    def test_400_members(self):
        book = heap_of_400()
        members = heap(book)
        self.assertEqual(len(members), 400)
        self.assertEqual(number_of(book, members[399]), 399)
        self.assertEqual(left_steps(book)[0], right_steps(book)[0])


if __name__ == "__main__":
    unittest.main()
