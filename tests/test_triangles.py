"""triangles.py: S5.2 and S5.3."""

import random
import unittest
from fractions import Fraction
from itertools import permutations
from math import gcd

from drawndeeds.lots import side_by_side
from drawndeeds.speeds import times
from drawndeeds.triangles import has_line, judge_triangle, lines_beside, take_in, triangle, triangle_times
from tests.bookssupport import (
    EXCHANGE, FALLS, FEW, NONE, OF_SUMS, ONE, SOME, TWINS, W, put_in, seventeen, sums_of_400, sums_of_500,
    turns_of_401, unlike_in_lots)
from tests.support import ANYTHING, Case, all_books, heap_of_400, heap_of_5040

OF_W = (((1, 1), (1, 1, 1)), ((1, 0), (0, 0, 1)), ((0, 1), (0, 1, 0)))


def in_span(lines, line):
    """Whether a line is a sum of multiples of lines, by fractions."""
    rows = []
    for given in list(lines) + [line]:
        now = [Fraction(x) for x in given]
        for at, row in rows:
            now = [x - now[at] * y for x, y in zip(now, row)]
        places = [p for p, x in enumerate(now) if x]
        if not places:
            if given is line:
                return True
            continue
        rows.append((places[0], [x / now[places[0]] for x in now]))
    return False


def slow_fault(book, value):
    """The first fault of what has the form of a triangle."""
    lines = [line for _, line in value]
    for k, line in enumerate(lines):
        if in_span(lines[:k], tuple(line)) or not any(line):
            return ("line", k)
    for k, (marks, line) in enumerate(value):
        for a, deed in enumerate(book[1]):
            led = tuple(line[p] - marks[a] * x for p, x in zip(deed, line))
            if any(led) and not in_span(lines[:k], led):
                return ("mark", k, a)
    return None


class Triangles(Case):
    def test_examples(self):
        self.gives(None, judge_triangle, W, OF_W)
        self.gives(None, judge_triangle, W, (OF_W[1], OF_W[0], OF_W[2]))
        self.gives(("mark", 1, 1), judge_triangle, W, (OF_W[0], ((1, 1), (0, 0, 1)), OF_W[2]))
        self.gives((((0,), 1), ((0, 1), 1), ((1,), 1)), triangle_times, OF_W)
        self.gives(None, triangle, EXCHANGE)

    def test_there_is_one_or_two_words(self):
        for book in SOME + all_books(3, 1) + all_books(3, 2)[::31] + [OF_SUMS, FALLS]:
            found = triangle(book)
            self.assertIs(found is None, unlike_in_lots(book))
            if found is not None:
                self.gives(found, triangle, book)
                self.gives(None, judge_triangle, book, found)
                self.assertIsNone(slow_fault(book, found))
                self.assertIs(found.__class__, tuple)
                self.gives(times(book), triangle_times, found)

    def test_edges(self):
        for book in (NONE, ONE, TWINS, (1, ()), (5, ((4, 4, 4, 4, 4),)), put_in(6)):
            found = triangle(book)
            self.gives(None, judge_triangle, book, found)
        self.gives((((), 3),), triangle_times, triangle(NONE))
        self.gives((((0, 1), 1),), triangle_times, triangle(ONE))
        self.gives((((), 2),), triangle_times, (((0, 0), (1, 2)), ((0, 0), (0, 0))))
        self.gives((((0,), 2), ((1,), 1)), triangle_times, (((0, 1), ()), ((1, 0), ()), ((1, 0), ())))

    def test_great_heaps(self):
        for book in (sums_of_400(), sums_of_500(), FALLS):
            self.gives(None, judge_triangle, book, triangle(book))
        for book in (heap_of_400(), turns_of_401(), heap_of_5040(),
                     (8, ((1, 2, 3, 4, 5, 6, 7, 0), (1, 0, 2, 3, 4, 5, 6, 7), (0, 0, 2, 3, 4, 5, 6, 7)))):
            self.gives(None, triangle, book)
            n, g = book[0], len(book[1])
            lines = tuple(((1,) * g, tuple(int(p == q) for q in range(n))) for p in range(n))
            self.assertEqual(judge_triangle(book, lines)[0], "mark")

    def test_places_side_by_side(self):
        chance = random.Random(2)
        for _ in range(6):
            falls = [(8, tuple(tuple(chance.choice([p, chance.randrange(p + 1)]) for p in range(8)) for _ in range(6)))
                     for _ in range(2)]
            book = side_by_side(side_by_side(falls[0], falls[1]), (1, ((0,),) * 6))
            found = triangle(book)
            self.gives(None, judge_triangle, book, found)
            self.short(found)
        book = seventeen()
        found = triangle(book)
        self.assertIs(found is None, times_are_none(book))

    def short(self, found):
        self.assertTrue(all(abs(x) < 10 ** 30 for _, line in found for x in line))

    def test_figures(self):
        # Random settled deeds of many places: the lines stay short.
        chance = random.Random(11)
        many = 0
        for _ in range(150):
            n = chance.randrange(4, 18)
            deeds = []
            for _ in range(chance.randrange(1, 5)):
                kept = chance.sample(range(n), chance.randrange(1, n + 1))
                deeds.append(tuple(p if p in kept else chance.choice(kept) for p in range(n)))
            found = triangle((n, tuple(deeds)))
            if found is not None:
                many += 1
                self.short(found)
                self.assertIsNone(judge_triangle((n, tuple(deeds)), found))
        self.assertGreater(many, 50)


class Lines(Case):
    def test_spans(self):
        chance = random.Random(13)
        for _ in range(300):
            n = chance.randrange(1, 7)
            lines = [[chance.randrange(-9, 10) for _ in range(n)] for _ in range(chance.randrange(0, 6))]
            rows = {}
            for k, line in enumerate(lines):
                known = in_span(lines[:k], line) or not any(line)
                self.assertIs(has_line(rows, line), known)
                self.assertIs(take_in(rows, line), not known)
                self.assertTrue(has_line(rows, line))
            beside = lines_beside(rows, n)
            self.assertEqual(len(beside) + len(rows), n)
            self.assertTrue(all(sum(a * b for a, b in zip(line, row)) == 0 for line in lines for row in beside))
            self.assertFalse(any(in_span(beside[:k], line) for k, line in enumerate(beside)))
            for line in beside + list(rows.values()):
                self.assertEqual(gcd(*line), 1)


def times_are_none(book):
    n, deeds = book
    parts = [(8, tuple(d[:8] for d in deeds)), (8, tuple(tuple(q - 8 for q in d[8:16]) for d in deeds))]
    return any(unlike_in_lots(part) for part in parts)


class Judge(Case):
    def test_form(self):
        right = list(OF_W)
        for value in ANYTHING:
            self.gives(("form",), judge_triangle, W, value)
        for value in (right, OF_W[:2], OF_W + OF_W[:1], (OF_W[0], OF_W[1], list(OF_W[2])), (OF_W[0], OF_W[1], None)):
            self.gives(("form",), judge_triangle, W, value)
        for pair in (((1,), (0, 1, 0)), ((1, 1, 1), (0, 1, 0)), ((0, 2), (0, 1, 0)), ((0, True), (0, 1, 0)),
                     ([0, 1], (0, 1, 0)), ((0, 1), [0, 1, 0]), ((0, 1), (0, 1)), ((0, 1), (0, 1, 0, 0)),
                     ((0, 1), (0, True, 0)), ((0, 1), (0, "1", 0)), ((0, 1),), ((0, -1), (0, 1, 0)), (None, None),
                     ((0, 1), (0, 1, 0), ())):
            self.gives(("form",), judge_triangle, W, OF_W[:2] + (pair,))
            # The form is looked for in the whole value ahead of lines that are noughts.
            self.gives(("form",), judge_triangle, W, (((0, 0), (0, 0, 0)), OF_W[1], pair))

    def test_lines_ahead_of_marks(self):
        self.gives(("line", 0), judge_triangle, W, (((1, 1), (0, 0, 0)),) + OF_W[1:])
        self.gives(("line", 2), judge_triangle, W, (((0, 0), (1, 1, 1)), OF_W[1], ((0, 1), (3, 3, 10 ** 40))))
        self.gives(("line", 1), judge_triangle, W, (OF_W[0], ((1, 0), (-7, -7, -7)), ((0, 1), (0, 0, 0))))
        self.gives(("mark", 0, 0), judge_triangle, W, (((0, 0), (1, 1, 1)),) + OF_W[1:])
        self.gives(("mark", 0, 1), judge_triangle, W, (((1, 0), (1, 1, 1)),) + OF_W[1:])
        self.gives(("mark", 2, 0), judge_triangle, W, OF_W[:2] + (((1, 1), (0, 1, 0)),))
        self.gives(None, judge_triangle, NONE, tuple(((), tuple(int(p == q) for q in range(3))) for p in range(3)))
        self.gives(("line", 2), judge_triangle, NONE, (((), (1, 2, 3)), ((), (4, 5, 6)), ((), (7, 8, 9))))

    def test_great_integers(self):
        great = 10 ** 299
        value = tuple((marks, tuple(great * x for x in line)) for marks, line in OF_W)
        self.gives(None, judge_triangle, W, value)
        value = value[:2] + (((0, 1), (great, 10 ** 298, 0)),)
        self.gives(slow_fault(W, value), judge_triangle, W, value)

    def test_by_fractions(self):
        chance = random.Random(12)
        for book in [W, TWINS] + [book for book in FEW if 1 < book[0] < 4]:
            n, g = book[0], len(book[1])
            right = triangle(book)
            for _ in range(30):
                value = tuple((tuple(chance.randrange(2) for _ in range(g)),
                               tuple(chance.randrange(-1, 2) for _ in range(n))) for _ in range(n))
                self.gives(slow_fault(book, value), judge_triangle, book, value)
            if right is not None:
                for value in permutations(right):
                    self.gives(slow_fault(book, value), judge_triangle, book, value)
                marks, line = right[-1]
                other = [x + 3 * sum(row[p] for _, row in right[:-1]) for p, x in enumerate(line)]
                self.gives(None, judge_triangle, book, right[:-1] + ((marks, tuple(other)),))


if __name__ == "__main__":
    unittest.main()
