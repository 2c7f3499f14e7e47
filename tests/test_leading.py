"""leading.py: S9.2."""

import unittest

from drawndeeds.ends import ends
from drawndeeds.heaps import heap, least_words
from drawndeeds.leading import first_to_one, judge_least, led_lots, led_word
from drawndeeds.meeting import first_meeting, never_met
from drawndeeds.rounds import round_of
from tests.bookssupport import EXCHANGE, ONE, least_rank_of
from tests.support import ANYTHING, Case, deed_of, words_up_to
from tests.test_meeting import BOOKS, GREAT
from tests.walkssupport import EIGHTS, SLOPE, SWAYING, WHEEL, pairs_of


def slow_led_word(book):
    word = ()
    while True:
        places = sorted(set(deed_of(book, word)))
        pairs = [(p, q) for k, p in enumerate(places) for q in places[k + 1:]]
        words = [first_meeting(book, pair) for pair in pairs if first_meeting(book, pair) is not None]
        if not words:
            return word
        word += words[0]


class Leading(Case):
    def test_examples(self):
        self.gives((0,), led_word, SWAYING)
        self.gives(((0, 1, 2, 3), (0, 1), (0, 3), (1, 2), (2, 3)), led_lots, SWAYING)
        self.gives((0, 0, 0, 1, 0, 0, 0, 1, 0, 0, 0, 1), led_word, WHEEL)
        self.gives((1, 0, 0, 0, 1, 0, 0, 0, 1), first_to_one, WHEEL)
        self.gives(("meet", 0, 1), judge_least, WHEEL, (1,))
        self.gives(None, first_to_one, SWAYING)

    def test_edges(self):
        for book in (ONE, (1, ())):
            self.gives(((0,),), led_lots, book)
            self.gives((), first_to_one, book)
            self.gives((), led_word, book)
            self.gives(None, judge_least, book, ())
        self.gives(((0, 1, 2),), led_lots, (3, ()))
        self.gives(None, first_to_one, (3, ()))
        self.gives((), led_word, (3, ()))
        self.gives(None, judge_least, (8, ()), ())
        self.gives((), led_word, EXCHANGE)
        self.gives(None, judge_least, EXCHANGE, (0,) * 2000)
        self.gives((0,), first_to_one, (2, ((1, 1), (1, 1), (0, 0))))
        # The first word to one of eight places that turn, of which one letter puts two together: 7 * 7 letters.
        word = self.gives(first_to_one(EIGHTS), first_to_one, EIGHTS)
        self.assertEqual(len(word), 49)
        self.assertEqual(len(led_lots(EIGHTS)), 2 ** 8 - 1)

    def test_by_the_heap(self):
        for book in BOOKS:
            members, words = heap(book), least_words(book)
            lots = {tuple(sorted(set(member))) for member in members}
            self.gives(tuple(sorted(lots, key=lambda lot: (-len(lot), lot))), led_lots, book)
            wanted = [word for member, word in zip(members, words) if len(set(member)) == 1]
            self.gives(wanted[0] if wanted else None, first_to_one, book)
            word = self.gives(slow_led_word(book), led_word, book)
            self.assertEqual(len(set(deed_of(book, word))), least_rank_of(members))

    def test_what_holds(self):
        for book in BOOKS + GREAT:
            n = book[0]
            word = self.gives(slow_led_word(book), led_word, book)
            self.assertLessEqual(len(word), (n - 1) * n * (n - 1) // 2)
            self.gives(None, judge_least, book, word)
            to_one = first_to_one(book)
            self.assertIs(to_one is None, never_met(book) != ())
            self.assertIs(to_one is None, len(set(deed_of(book, word))) > 1)
            if to_one is not None:
                self.assertEqual(len(set(deed_of(book, to_one))), 1)
                if len(book[1]) > 0:
                    self.assertEqual(len(ends(book)), 1)
                    self.assertEqual(round_of(book, 0), 1)

    def test_least_rank_exactly_if_no_two_places_meet(self):
        for book in BOOKS:
            least = least_rank_of(heap(book))
            for word in words_up_to(len(book[1]), 4 if len(book[1]) < 3 else 2):
                places = sorted(set(deed_of(book, word)))
                pairs = [pair for pair in pairs_of(book[0]) if set(pair) <= set(places)]
                meet = [pair for pair in pairs if first_meeting(book, pair) is not None]
                self.assertIs(len(places) == least, not meet)
                self.gives(("meet",) + min(meet) if meet else None, judge_least, book, word)

    def test_no_words(self):
        for value in ANYTHING:
            if isinstance(value, tuple) and value in ((), (0,), (1,), (0, 1), (1, 0)):
                continue
            self.gives(("form",), judge_least, WHEEL, value)
        for bad in ((2,), (-1,), [0], (True,), (0, 0, None), None):
            self.gives(("form",), judge_least, SLOPE, bad)
        self.gives(("form",), judge_least, (3, ()), (0,))


if __name__ == "__main__":
    unittest.main()
