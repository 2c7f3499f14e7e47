"""letterlots.py: S5.1 and S5.5."""

import unittest

from drawndeeds.errors import TooMany
from drawndeeds.heaps import least_words
from drawndeeds.letterlots import held_by_lots, held_number, lot_of
from tests.bookssupport import (
    EXCHANGE, NONE, ONE, OF_SUMS, SOME, TWINS, W, held_of, lots_of, put_in, some_words, sums_of_400, sums_of_500,
    turns_of_401, unlike_in_lots)
from tests.support import B, Case, heap_of_400, heap_of_5040


class LetterLots(Case):
    def test_lots(self):
        self.gives((), lot_of, ())
        self.gives((0, 3, 5), lot_of, (3, 5, 3, 0))
        self.gives((0, 1), lot_of, (1, 0) * 1000)

    def test_held(self):
        self.gives(2, held_number, W, (0,))
        self.gives(3, held_number, NONE, ())
        self.gives(1, held_number, ONE, (1, 0))
        self.gives(2, held_number, EXCHANGE, (0,) * 2000)
        self.gives(0, held_number, EXCHANGE, (0,) * 1999)
        for book in SOME:
            for word in some_words(book):
                self.gives(held_of(book, word), held_number, book, word)

    def test_examples(self):
        self.gives([((), 3), ((0,), 2), ((0, 1), 1), ((1,), 2)], held_by_lots, W)
        self.gives(None, held_by_lots, EXCHANGE)
        self.gives([((), 3)], held_by_lots, NONE)
        self.gives([((), 1), ((0,), 1), ((0, 1), 1), ((1,), 1)], held_by_lots, ONE)
        self.gives([((), 3), ((0,), 2), ((0, 1), 1), ((0, 1, 2), 1), ((0, 2), 2), ((1,), 2), ((1, 2), 1), ((2,), 2)],
                   held_by_lots, TWINS)

    def test_by_all_words(self):
        for book in SOME:
            lots = sorted(lots_of(len(book[1])))
            wanted = None if unlike_in_lots(book) else [(lot, held_of(book, lot)) for lot in lots]
            self.gives(wanted, held_by_lots, book)

    def test_where_to_look(self):
        for book in SOME:
            letters = range(len(book[1]))
            found = any(held_of(book, w + (a, b)) != held_of(book, w + (b, a)) or
                        held_of(book, w + (a,)) != held_of(book, w + (a, a))
                        for w in least_words(book) for a in letters for b in letters)
            self.assertIs(unlike_in_lots(book), found)

    def test_bound(self):
        self.gives(None, held_by_lots, heap_of_400())
        told = held_by_lots(sums_of_400())
        self.assertEqual(told, [(lot, held_of(sums_of_400(), lot)) for lot in sorted(lots_of(6))])
        for book in (turns_of_401(), sums_of_500(), heap_of_5040()):
            self.refused(TooMany, {}, held_by_lots, book)
        self.assertEqual(len(held_by_lots(OF_SUMS)), 16)
        self.gives([(lot, 7 - len(lot)) for lot in sorted(lots_of(6))], held_by_lots, put_in(6))
        self.gives(None, held_by_lots, B)


if __name__ == "__main__":
    unittest.main()
