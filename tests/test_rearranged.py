"""rearranged.py: S11.1, S11.3 and S11.4."""

import unittest
from itertools import permutations

from drawndeeds.errors import TooMany
from drawndeeds.heaps import least_words
from drawndeeds.rearranged import judge_rearranged, rearranged_words, tally_of
from drawndeeds.speeds import times
from tests.bookssupport import EXCHANGE, NONE, ONE, OF_SUMS, W, sums_of_400, sums_of_500, then, turns_of_401
from tests.support import ANYTHING, Case, heap_of_400, heap_of_5040
from tests.turnssupport import BOOKS, T, held_in, tallies_clash


class Rearranged(Case):
    def test_tallies(self):
        self.gives((2, 0, 1), tally_of, 3, (0, 2, 0))
        self.gives((), tally_of, 0, ())
        self.gives((0, 0), tally_of, 2, ())
        self.gives((0, 2000, 0, 0, 0, 0), tally_of, 6, (1,) * 2000)

    def test_examples(self):
        self.gives(None, judge_rearranged, T, ((0, 0, 1, 1), (0, 1, 0, 1)))
        self.gives(None, judge_rearranged, T, ((0, 1, 0, 1) + (1,) * 1996, (0, 0) + (1,) * 1998))
        self.gives(("held",), judge_rearranged, T, ((0, 1), (1, 0)))
        self.gives(("tally",), judge_rearranged, T, ((0, 1), (0, 1, 1)))
        self.gives(("tally",), judge_rearranged, T, ((0, 1, 1), (1, 0, 0)))
        self.gives(("tally",), judge_rearranged, T, ((), (1, 1)))
        self.gives(("held",), judge_rearranged, NONE, ((), ()))
        self.gives(("form",), judge_rearranged, NONE, ((), (0,)))
        self.gives(None, rearranged_words, EXCHANGE)
        self.gives(None, rearranged_words, ONE)
        self.gives(None, rearranged_words, NONE)
        self.gives(None, rearranged_words, W)

    def test_papers(self):
        for book in BOOKS:
            pair = rearranged_words(book)
            self.gives(pair, rearranged_words, book)
            g = len(book[1])
            self.assertTrue(pair is not None or not tallies_clash(book, 7 if g < 3 else 4 if g < 5 else 3))
            if pair is not None:
                self.gives(None, judge_rearranged, book, pair)
                self.assertEqual(sorted(pair[0]), sorted(pair[1]))
                self.assertNotEqual(held_in(book, pair[0]), held_in(book, pair[1]))
                self.assertLessEqual(max(len(word) for word in pair), 401)

    def test_where_to_look(self):
        for book in BOOKS:
            g = len(book[1])
            words = least_words(book)
            clash = any(held_in(book, w + (a, b)) != held_in(book, w + (b, a))
                        for w in words for a in range(g) for b in range(a))
            self.assertIs(clash, rearranged_words(book) is not None)
            twice = any(held_in(book, w + (a,)) != held_in(book, w + (a, a)) for w in words for a in range(g))
            self.assertIs(times(book) is not None, not clash and not twice)

    def test_books_of_turns(self):
        for n in (1, 2, 3, 4):
            turns = list(permutations(range(n)))
            for a in turns:
                for b in turns:
                    self.assertIs(rearranged_words((n, (a, b))) is None, then(a, b) == then(b, a))

    def test_bound(self):
        for book in (turns_of_401(), sums_of_500(), heap_of_5040()):
            self.refused(TooMany, {}, rearranged_words, book)
        self.gives(None, rearranged_words, sums_of_400())
        self.gives(None, rearranged_words, OF_SUMS)
        pair = rearranged_words(heap_of_400())
        self.gives(None, judge_rearranged, heap_of_400(), pair)

    def test_greater_heaps_are_judged(self):
        book = heap_of_5040()
        self.gives(None, judge_rearranged, book, ((0, 0, 1, 1), (0, 1, 0, 1)))
        self.gives(("tally",), judge_rearranged, book, ((0,), (1,)))
        self.gives(("held",), judge_rearranged, sums_of_500(), ((0, 3), (3, 0)))
        self.gives(("form",), judge_rearranged, turns_of_401(), ((0,), [0]))

    def test_form(self):
        for value in ANYTHING + [((0,),), ((0,), (0, 0), ()), ((0,), [0, 0]), [(0,), (0, 0)], ((0,), (0, True)),
                                 ((False,), (0, 0)), ((0,), (2,)), ((-1,), (0,)), ((0,), None), ("", ())]:
            self.gives(("tally",) if value == ((0, 1), ()) else ("form",), judge_rearranged, T, value)


if __name__ == "__main__":
    unittest.main()
