"""keptlots.py: S7.5, S7.6 and S7.8."""

import random
import unittest
from fractions import Fraction
from itertools import combinations

from drawndeeds.alike import are_alike
from drawndeeds.errors import UnknownName
from drawndeeds.keptlots import book_of_lot, book_of_piece, is_kept, kept_lots, least_kept, pieces, rest_of
from drawndeeds.speeds import times
from tests.bookssupport import (
    EXCHANGE, FALLS, NONE, ONE, OF_SUMS, SOME, W, determinant, held_of, less_from, some_words, word_table)
from tests.support import ANYTHING, Case, heap_of_5040
from tests.test_alike import FALL, OTHER

SQUARE = (4, ((1, 0, 3, 2), (2, 2, 0, 0)))
ALL_MAPS = (8, ((1, 2, 3, 4, 5, 6, 7, 0), (1, 0, 2, 3, 4, 5, 6, 7), (0, 0, 2, 3, 4, 5, 6, 7)))


def lots_of_places(n):
    return sorted(lot for many in range(1, n + 1) for lot in combinations(range(n), many))


def come_from(book, p):
    """All places that are come to from a place, by walking so far as there are places."""
    found = {p}
    for _ in range(book[0]):
        found |= {deed[q] for deed in book[1] for q in found}
    return found


def kept(book, lot):
    return len(lot) > 0 and all(deed[p] in lot for deed in book[1] for p in lot)


def added(told, more, less, g):
    """Times of two books together, less so many for the lot of all letters."""
    numbers = {}
    for lot, number in told + more + ((tuple(range(g)), -less),):
        numbers[lot] = numbers.get(lot, 0) + number
    return tuple((lot, numbers[lot]) for lot in sorted(numbers) if numbers[lot])


class KeptLots(Case):
    def test_examples(self):
        self.gives([(0,), (0, 1), (0, 1, 2)], kept_lots, FALL)
        self.gives((2, ((1, 1), (1, 1))), rest_of, FALL, (0, 1))
        self.gives(((0, 1, 2, 3),), pieces, SQUARE)
        self.gives((2, ((1, 1), (1, 1))), book_of_piece, FALL, 2)
        self.gives((2, ((0, 0), (0, 1))), book_of_lot, FALL, (0, 1))

    def test_edges(self):
        self.gives([(0,), (0, 1), (0, 1, 2), (0, 2), (1,), (1, 2), (2,)], kept_lots, NONE)
        self.gives([(0,)], kept_lots, ONE)
        self.gives((1, ((0,), (0,))), rest_of, ONE, (0,))
        self.gives((1, ((0,), (0,))), book_of_lot, ONE, (0,))
        self.gives((2, ((0, 1), (0, 1))), book_of_piece, ONE, 0)
        self.gives(((0,), (1,), (2,)), pieces, NONE)
        self.gives((2, ()), book_of_piece, NONE, 1)
        self.gives((1, ()), rest_of, NONE, (0, 1, 2))
        self.gives((2, ()), rest_of, NONE, (0, 2))
        self.gives((1, ()), book_of_lot, NONE, (2,))
        self.assertEqual(kept_lots((8, ())), lots_of_places(8))
        self.assertEqual(kept_lots((8, (tuple(range(8)),) * 6)), lots_of_places(8))
        self.gives([tuple(range(8))], kept_lots, ALL_MAPS)
        self.gives([tuple(range(7))], kept_lots, heap_of_5040())

    def test_is_kept(self):
        for book in SOME:
            for lot in lots_of_places(book[0]):
                self.gives(kept(book, lot), is_kept, book, lot)
        for value in [v for v in ANYTHING if v not in ((0,), (0, 1), (0, 1, 2))] + [
                (2,), (0, 3), (True,), (0, True), [0], [0, 1], (0, 0), (1, 0), ((0,),), {0: 1}, (-1, 0), (False,)]:
            self.gives(False, is_kept, FALL, value)

    def test_all_kept_lots(self):
        for book in SOME + [FALLS, OF_SUMS, SQUARE, OTHER]:
            self.gives([lot for lot in lots_of_places(book[0]) if kept(book, lot)], kept_lots, book)

    def test_least_kept(self):
        chance = random.Random(51)
        for book in SOME + [SQUARE]:
            lots = kept_lots(book)
            for _ in range(6):
                places = [chance.randrange(book[0]) for _ in range(chance.randrange(1, 4))]
                with_all = [lot for lot in lots if set(places) <= set(lot)]
                wanted = tuple(sorted(set().union(*[come_from(book, p) for p in places])))
                self.gives(wanted, least_kept, book, places)
                self.gives(wanted, least_kept, book, tuple(places))
                self.assertTrue(all(set(wanted) <= set(lot) for lot in with_all))
                self.assertIn(wanted, with_all)

    def test_lots_together_and_in_common(self):
        for book in SOME:
            lots = kept_lots(book)
            for lot in lots:
                for other in lots:
                    self.assertIn(tuple(sorted(set(lot) | set(other))), lots)
                    both = tuple(sorted(set(lot) & set(other)))
                    self.assertTrue(both == () or both in lots)


class Books(Case):
    def test_books_of_lots_and_rests(self):
        for book in SOME:
            n, deeds = book
            for lot in kept_lots(book):
                outside = [p for p in range(n) if p not in lot]
                inner = (len(lot), tuple(tuple(lot.index(deed[p]) for p in lot) for deed in deeds))
                rest = (len(outside) + 1, tuple(
                    tuple(outside.index(deed[p]) if deed[p] in outside else len(outside) for p in outside)
                    + (len(outside),) for deed in deeds))
                self.gives(inner, book_of_lot, book, lot)
                self.gives(rest, rest_of, book, lot)

    def test_what_holds_of_lots(self):
        chance = random.Random(52)
        for book in SOME:
            g = len(book[1])
            told = times(book)
            for lot in kept_lots(book)[:6]:
                inner, rest = book_of_lot(book, lot), rest_of(book, lot)
                words = some_words(book)[:20]
                for word in words:
                    self.assertEqual(held_of(book, word), held_of(inner, word) + held_of(rest, word) - 1)
                weights = {word: Fraction(chance.randrange(-9, 9)) for word in words}
                z = Fraction(chance.randrange(-50, 50), 3)
                whole, one, two = [determinant(less_from(z, word_table(b, weights))) for b in (book, inner, rest)]
                self.assertEqual(whole * (z - sum(weights.values())), one * two)
                self.assertIs(told is not None, times(inner) is not None and times(rest) is not None)
                if told is not None:
                    self.assertEqual(told, added(times(inner), times(rest), 1, g))

    def test_books_that_differ_outside_are_alike(self):
        chance = random.Random(53)
        for book in [FALL, OTHER, W, FALLS, (5, ((0, 1, 0, 2, 3), (0, 4, 1, 2, 3)))]:
            for lot in kept_lots(book):
                deeds = [list(deed) for deed in book[1]]
                for deed in deeds:
                    for p in range(book[0]):
                        if p not in lot and deed[p] in lot:
                            deed[p] = chance.choice(lot)
                self.assertTrue(are_alike(book, (book[0], tuple(tuple(deed) for deed in deeds))))


class Pieces(Case):
    def test_pieces(self):
        for book in SOME + [SQUARE, ALL_MAPS, FALLS]:
            n, deeds = book
            comes = [come_from(book, p) for p in range(n)]
            wanted = []
            for p in range(n):
                piece = tuple(q for q in range(n) if q in comes[p] and p in comes[q])
                if piece not in wanted:
                    wanted.append(piece)
            self.gives(tuple(wanted), pieces, book)
            for k, piece in enumerate(wanted):
                out = len(piece)
                told = (out + 1, tuple(tuple(piece.index(deed[p]) if deed[p] in piece else out for p in piece) + (out,)
                                       for deed in deeds))
                self.gives(told, book_of_piece, book, k)

    def test_no_numbers(self):
        for book in (FALL, NONE, ONE, EXCHANGE):
            many = len(pieces(book))
            for value in ANYTHING + [many, many + 1, -1, "0", (0,), 10 ** 40]:
                if isinstance(value, bool) or not isinstance(value, int) or not 0 <= value < many:
                    self.refused(UnknownName, {"name": value}, book_of_piece, book, value)

    def test_what_holds_of_pieces(self):
        for book in SOME:
            g = len(book[1])
            many = len(pieces(book))
            books = [book_of_piece(book, k) for k in range(many)]
            for word in some_words(book)[:30]:
                self.assertEqual(held_of(book, word), sum(held_of(part, word) for part in books) - many)
            told = times(book)
            parts = [times(part) for part in books]
            self.assertIs(told is not None, all(part is not None for part in parts))
            if told is not None:
                self.assertEqual(told, added(sum(parts, ()), (), many, g))


if __name__ == "__main__":
    unittest.main()
