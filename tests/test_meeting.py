"""meeting.py: S9.1."""

import random
import unittest
from itertools import combinations

from drawndeeds.heaps import heap, least_words
from drawndeeds.meeting import first_meeting, judge_meeting, judge_still, lead_pair, never_met
from drawndeeds.ranks import meeting_pairs
from tests.bookssupport import EXCHANGE, FALLS, ONE, SOME
from tests.support import ANYTHING, Case, all_books, deed_of, heap_of_5040
from tests.walkssupport import (
    ALL_MAPS, EIGHTS, L, NO_LETTERS, S, SEVERAL, SLOPE, SWAYING, WHEEL, led_apart, letters_words, pairs_of, ring_of)

BOOKS = SOME + all_books(3, 2)[::41] + NO_LETTERS + [WHEEL, SWAYING, SLOPE, L, S, SEVERAL, ring_of(2, 2)]
GREAT = [ALL_MAPS, EIGHTS, FALLS, heap_of_5040(), (8, ((1, 2, 3, 4, 5, 6, 7, 0), (1, 1, 2, 3, 4, 5, 6, 7)) * 3)]


def first_word_of(book, pair):
    """The first word that leads a pair together, by the heap and its least words."""
    for member, word in zip(heap(book), least_words(book)):
        if led_apart(member, pair) is None:
            return word
    return None


class Meeting(Case):
    def test_examples(self):
        self.gives((0, 1), lead_pair, WHEEL, (0, 1), (0, 2))
        self.gives(None, lead_pair, WHEEL, (0, 1, 0, 0, 0, 1), (0, 2))
        self.gives(("apart", 0, 1), judge_meeting, WHEEL, (0, 2), (0, 1))
        self.gives(((0, 1), (0, 3), (1, 2), (2, 3)), never_met, SWAYING)
        self.gives((1,), first_meeting, WHEEL, (0, 3))
        self.gives((0, 1, 0, 0, 0, 1), first_meeting, WHEEL, (0, 2))
        self.gives(((0, 1), (0, 3), (1, 2), (2, 3)), lambda book: tuple(
            pair for pair in pairs_of(4) if first_meeting(book, pair) is None), SWAYING)

    def test_edges(self):
        self.gives((), never_met, ONE)
        self.gives((), never_met, (1, ()))
        self.gives(tuple(pairs_of(8)), never_met, (8, ()))
        self.gives(None, first_meeting, (8, ()), (3, 7))
        self.gives((3, 7), lead_pair, (8, ()), (), (3, 7))
        self.gives(("apart", 3, 7), judge_meeting, (8, ()), (3, 7), ())
        self.gives(((0, 1),), never_met, EXCHANGE)
        self.gives((0, 1), lead_pair, EXCHANGE, (0,), (0, 1))
        self.gives((0, 1), lead_pair, EXCHANGE, (0,) * 2000, (0, 1))
        self.gives(None, judge_meeting, WHEEL, (0, 2), (1,) * 1993 + (0, 1, 0, 0, 0, 1, 1))
        # Of two letters with the same deed the first one stands in the first word.
        self.gives((0,), first_meeting, (2, ((0, 0), (0, 0), (0, 1))), (0, 1))
        self.gives((1,), first_meeting, (2, ((0, 1), (0, 0), (0, 0))), (0, 1))
        self.gives((), never_met, EIGHTS)
        # As many letters as there are pairs are the most that a pair could ask for.
        self.assertEqual(max(len(first_meeting(EIGHTS, pair)) for pair in pairs_of(8)), 28)

    def test_leading(self):
        chance = random.Random(101)
        for book in BOOKS + GREAT:
            g = len(book[1])
            for pair in pairs_of(book[0])[:10]:
                word = tuple(chance.randrange(g) for _ in range(chance.randrange(5))) if g else ()
                self.gives(led_apart(deed_of(book, word), pair), lead_pair, book, word, pair)

    def test_first_words(self):
        for book in BOOKS:
            for pair in pairs_of(book[0]):
                self.gives(first_word_of(book, pair), first_meeting, book, pair)
            wanted = tuple(pair for pair in pairs_of(book[0]) if first_word_of(book, pair) is None)
            self.gives(wanted, never_met, book)

    def test_first_words_by_all_words(self):
        for book in [book for book in BOOKS if 0 < len(book[1]) < 3 and book[0] < 5]:
            words = letters_words(len(book[1]), 6)
            for pair in pairs_of(book[0]):
                wanted = [word for word in words if led_apart(deed_of(book, word), pair) is None]
                found = first_meeting(book, pair)
                self.assertEqual(found, wanted[0] if wanted else None)

    def test_what_holds(self):
        for book in BOOKS + GREAT:
            n = book[0]
            never = self.gives(never_met(book), never_met, book)
            self.assertEqual(list(never) + meeting_pairs(book), sorted(
                list(never) + meeting_pairs(book), key=lambda pair: (pair not in never, pair)))
            self.assertEqual(sorted(list(never) + meeting_pairs(book)), pairs_of(n))
            for pair in pairs_of(n):
                word = self.gives(first_meeting(book, pair), first_meeting, book, pair)
                self.assertIs(word is None, pair in never)
                if pair in never:
                    self.gives(None, judge_still, book, pair, never)
                    continue
                self.gives(("lacks",), judge_still, book, pair, never)
                self.gives(None, judge_meeting, book, pair, word)
                self.assertLessEqual(len(word), n * (n - 1) // 2)
                for cut in range(len(word)):
                    led = led_apart(deed_of(book, word[:cut]), pair)
                    self.assertEqual(first_meeting(book, led), word[cut:])

    def test_a_pair_meets_exactly_if_no_still_lot_has_it(self):
        books = all_books(1, 1) + all_books(2, 1) + all_books(2, 2) + all_books(3, 1) + all_books(3, 2)[::23]
        for book in books + NO_LETTERS[:4] + [WHEEL, SWAYING, L, S]:
            pairs = pairs_of(book[0])
            has = {pair: False for pair in pairs}
            for many in range(len(pairs) + 1):
                for lot in combinations(pairs, many):
                    still = all(led_apart(deed, pair) in lot for pair in lot for deed in book[1])
                    for pair in pairs:
                        found = judge_still(book, pair, lot)
                        self.assertIs(found is None, still and pair in lot)
                        has[pair] = has[pair] or found is None
            for pair in pairs:
                self.assertIs(has[pair], first_meeting(book, pair) is None)


class Judges(Case):
    def test_meeting_words(self):
        for value in ANYTHING:
            if value in ((), (0,), (1,), (0, 1), (1, 0)) and isinstance(value, tuple):
                continue
            self.gives(("form",), judge_meeting, WHEEL, (0, 2), value)
        self.gives(("apart", 0, 2), judge_meeting, WHEEL, (0, 2), ())
        self.gives(("apart", 1, 3), judge_meeting, WHEEL, (0, 2), (0,))
        self.gives(("form",), judge_meeting, WHEEL, (0, 2), (0, 2))
        self.gives(("form",), judge_meeting, WHEEL, (0, 2), [0, 1, 0, 0, 0, 1])
        self.gives(("form",), judge_meeting, WHEEL, (0, 2), (0, True, 0, 0, 0, 1))
        self.gives(("form",), judge_meeting, (8, ()), (0, 2), (0,))
        self.gives(None, judge_meeting, WHEEL, (0, 3), (1,))

    def test_still_lots(self):
        self.gives(("out", 1, 1), judge_still, SWAYING, (0, 1), ((0, 1), (1, 2)))
        self.gives(("lacks",), judge_still, SWAYING, (0, 2), ((0, 1),))
        self.gives(("lacks",), judge_still, SWAYING, (0, 2), ())
        self.gives(("order", 1), judge_still, SWAYING, (0, 2), ((0, 1), (0, 1)))
        self.gives(("order", 2), judge_still, SWAYING, (0, 2), ((0, 1), (1, 2), (0, 3)))
        self.gives(("together", 0, 0), judge_still, SWAYING, (0, 2), ((0, 2),))
        self.gives(("out", 0, 1), judge_still, SWAYING, (0, 1), ((0, 1), (0, 2)))
        self.gives(("together", 1, 0), judge_still, SWAYING, (0, 1), ((0, 1), (0, 2), (1, 2)))
        # The least pair is asked by all letters ahead of the next one, and for a pair the least letter is told.
        self.gives(("together", 0, 1), judge_still, (3, ((0, 1, 2), (0, 0, 1))), (0, 1), ((0, 1), (0, 2)))
        self.gives(("out", 0, 0), judge_still, (3, ((0, 2, 1), (0, 0, 1))), (0, 1), ((0, 1),))
        self.gives(("together", 0, 0), judge_still, (3, ((0, 0, 1), (0, 2, 1))), (0, 1), ((0, 1),))
        self.gives(None, judge_still, (8, ()), (0, 1), ((0, 1), (6, 7)))

    def test_form_of_still_lots(self):
        for value in ANYTHING:
            self.gives(("lacks",) if value == () else ("form",), judge_still, SWAYING, (0, 1), value)
            if isinstance(value, list) or value not in ((0, 1),):
                self.gives(("form",), judge_still, SWAYING, (0, 1), (value,))
                self.gives(("form",), judge_still, SWAYING, (0, 1), ((0, 2), value))
        for bad in ([(0, 1)], ((1, 0),), ((1, 1),), ((0, 4),), ((-1, 0),), ((0, 1, 2),), ((0,),), ([0, 1],),
                    ((False, 1),), ((0, True),), ((0, 1), None), {(0, 1): True}, ((0, 1), (0, 1), (3, 2))):
            self.gives(("form",), judge_still, SWAYING, (0, 1), bad)


if __name__ == "__main__":
    unittest.main()
