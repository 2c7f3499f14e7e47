"""stairs.py: S11.2, S11.3 and S11.6."""

import random
import unittest
from itertools import permutations

from drawndeeds.lots import side_by_side
from drawndeeds.rearranged import rearranged_words
from drawndeeds.stairs import judge_stairs, stairs
from tests.bookssupport import (
    EXCHANGE, FALLS, NONE, ONE, OF_SUMS, W, put_in, seventeen, sums_of_400, sums_of_500, then, turns_of_401)
from tests.support import ANYTHING, Case, heap_of_400, heap_of_5040
from tests.test_triangles import in_span
from tests.turnssupport import BOOKS, RINGS, T, turned_falls, with_places_moved


def none_of(lines, line):
    """Whether a line is not noughts, nor a sum of multiples of lines."""
    return any(line) and not in_span(lines, tuple(line))


def slow_fault(book, value):
    """The first fault of what has the form of stairs."""
    deeds = book[1]
    lines = [line for step in value for line in step]
    for k, line in enumerate(lines):
        if not none_of(lines[:k], line):
            return ("line", k)
    ends = [sum(len(step) for step in value[:j]) for j in range(len(value) + 1)]
    of_step = [j for j, step in enumerate(value) for _ in step]
    for k, line in enumerate(lines):
        for a, d in enumerate(deeds):
            if none_of(lines[:ends[of_step[k] + 1]], [line[p] for p in d]):
                return ("kept", k, a)
    for k, line in enumerate(lines):
        for a, d in enumerate(deeds):
            for b, e in list(enumerate(deeds))[a + 1:]:
                less = [line[d[e[p]]] - line[e[d[p]]] for p in range(book[0])]
                if none_of(lines[:ends[of_step[k]]], less):
                    return ("turned", k, a, b)
    return None


def units(n):
    return tuple(tuple(int(p == q) for q in range(n)) for p in range(n))


class Stairs(Case):
    def test_examples(self):
        self.gives(None, judge_stairs, EXCHANGE, (((1, 0), (0, 1)),))
        self.gives(("turned", 0, 0, 1), judge_stairs, T, (((1, 0, 0), (0, 1, 0), (0, 0, 1)),))
        self.gives(None, stairs, T)

    def test_edges(self):
        for book in (NONE, ONE, (1, ()), (8, ()), RINGS, W, EXCHANGE, put_in(6), FALLS, OF_SUMS):
            found = stairs(book)
            self.gives(found, stairs, book)
            self.gives(None, judge_stairs, book, found)
            self.assertIsNone(slow_fault(book, found))
        self.gives(None, judge_stairs, NONE, (units(3),))
        self.gives(None, judge_stairs, NONE, tuple((line,) for line in units(3)))

    def test_there_are_stairs_or_two_words(self):
        for book in BOOKS:
            found = stairs(book)
            self.assertIs(found is None, rearranged_words(book) is not None)
            if found is not None:
                self.gives(found, stairs, book)
                self.gives(None, judge_stairs, book, found)
                self.assertIsNone(slow_fault(book, found))
                self.assertIs(found.__class__, tuple)
                self.assertTrue(all(step.__class__ is tuple for step in found))
                self.assertTrue(all(line.__class__ is tuple for step in found for line in step))

    def test_no_value_is_stairs_where_there_are_two_words(self):
        chance = random.Random(161)
        for book in [book for book in BOOKS if book[0] < 5]:
            for _ in range(6):
                n = book[0]
                value, rest = [], n
                while rest:
                    many = chance.randrange(1, rest + 1)
                    value.append(tuple(tuple(chance.randrange(-1, 2) for _ in range(n)) for _ in range(many)))
                    rest -= many
                value = tuple(value)
                found = self.gives(slow_fault(book, value), judge_stairs, book, value)
                self.assertTrue(found is not None or rearranged_words(book) is None)

    def test_faults_of_changed_stairs(self):
        chance = random.Random(162)
        sorts = set()
        for book in [book for book in BOOKS if book[0] > 1 and rearranged_words(book) is None] * 2:
            steps = [list(step) for step in stairs(book)]
            lines = [(j, k) for j, step in enumerate(steps) for k in range(len(step))]
            change = chance.randrange(4)
            j, k = chance.choice(lines)
            i, h = chance.choice(lines)
            if change == 0:
                steps[j][k], steps[i][h] = steps[i][h], steps[j][k]
            elif change == 1:
                steps[j][k] = tuple(a + b for a, b in zip(steps[j][k], steps[i][h]))
            elif change == 2:
                steps = [[line for step in steps for line in step]]
            else:
                steps = [[line] for step in steps for line in step]
            value = tuple(tuple(step) for step in steps)
            found = self.gives(slow_fault(book, value), judge_stairs, book, value)
            sorts.add(found if found is None else found[0])
        self.assertLessEqual({None, "kept", "turned"}, sorts)

    def test_faults_in_their_sequence(self):
        self.gives(("line", 0), judge_stairs, T, (((0, 0, 0), (0, 1, 0), (0, 0, 1)),))
        self.gives(("line", 2), judge_stairs, T, (((1, 1, 1),), ((0, 1, 0), (3, 0, 3))))
        self.gives(("kept", 0, 0), judge_stairs, T, (((1, 0, 0),), ((0, 1, 0), (0, 0, 1))))
        self.gives(("kept", 0, 1), judge_stairs, T, (((0, 1, 0), (1, 0, 0)), ((0, 0, 1),)))
        self.gives(("kept", 1, 0), judge_stairs, T, (((1, 1, 1),), ((1, 0, 0),), ((0, 1, 0),)))
        self.gives(("turned", 1, 0, 1), judge_stairs, T, (((1, 1, 1),), ((1, 0, 0), (0, 1, 0))))
        # Of three letters the first two that can't be exchanged are told, the first one being the least.
        book = (3, ((0, 1, 2), (1, 0, 2), (1, 0, 2), (0, 2, 1)))
        self.gives(("turned", 0, 1, 3), judge_stairs, book, (units(3),))
        self.gives(None, judge_stairs, W, (((1, 1, 1),), ((0, 0, 1), (0, 1, 0))))
        self.gives(None, judge_stairs, W, (((10 ** 299, 10 ** 299, 10 ** 299),), ((0, 0, -(10 ** 299)),), ((0, 7, 0),)))

    def test_great_integers(self):
        dice = random.Random(164)
        lines = tuple(tuple(dice.randrange(-10 ** 299, 10 ** 299) for _ in range(17)) for _ in range(17))
        idle = (17, (tuple(range(17)),) * 6)
        turn = (17, tuple(tuple((p + k) % 17 for p in range(17)) for k in range(6)))
        twice = lines[:16] + (tuple(a - 10 ** 250 * b for a, b in zip(lines[3], lines[7])),)
        for book, value, fault in (
                (idle, (lines,), None), (idle, tuple((line,) for line in lines), None), (turn, (lines,), None),
                (turn, (lines[:1], lines[1:]), ("kept", 0, 1)), (turn, (twice,), ("line", 16))):
            self.gives(fault, judge_stairs, book, value)

    def test_form(self):
        for value in ANYTHING:
            self.gives(("form",), judge_stairs, EXCHANGE, value)
            self.gives(("form",), judge_stairs, EXCHANGE, (value, ((1, 0), (0, 1))))
            self.gives(("form",), judge_stairs, EXCHANGE, (((1, 0), value, (0, 1)),))
            if not isinstance(value, int) or isinstance(value, bool):
                self.gives(("form",), judge_stairs, EXCHANGE, (((1, 0), (0, value)),))
        for bad in ((((1, 0),),), ((), ((1, 0), (0, 1))), (((1, 0), (0, 1)), ()), [((1, 0), (0, 1))],
                    ([(1, 0), (0, 1)],), (([1, 0], (0, 1)),), (((1, 0), (0, 1, 0)),), (((1, 0), (0,)),),
                    (((1, 0), (0, True)),), (((1, 0),), ((0, 1),), ((1, 1),)), ((1, 0), (0, 1)), ()):
            self.gives(("form",), judge_stairs, EXCHANGE, bad)

    def test_great_heaps(self):
        for book in (sums_of_400(), sums_of_500()):
            self.gives(None, judge_stairs, book, stairs(book))
        for book in (heap_of_400(), turns_of_401(), heap_of_5040()):
            self.gives(None, stairs, book)
            self.gives("turned", lambda b, v: judge_stairs(b, v)[0], book, (units(book[0]),))

    def test_books_of_turns(self):
        for n in (2, 3, 4):
            turns = list(permutations(range(n)))
            for a in turns:
                for b in turns:
                    self.assertIs(stairs((n, (a, b))) is not None, then(a, b) == then(b, a))

    def test_many_places_and_short_lines(self):
        dice = random.Random(163)
        for m, r, g in ((2, 4, 6), (4, 2, 6), (8, 1, 6), (8, 2, 6), (4, 4, 6), (5, 3, 6), (3, 5, 4), (2, 8, 4),
                (17, 1, 6)) * 3:
            book = with_places_moved(dice, turned_falls(dice, m, r, g)[0])
            found = stairs(book)
            self.gives(None, judge_stairs, book, found)
            self.short(found)
        falls = [with_places_moved(dice, turned_falls(dice, 4, 2, 3)[0]) for _ in range(2)]
        book = side_by_side(side_by_side(falls[0], falls[1]), (1, ((0,),) * 3))
        self.gives(None, judge_stairs, book, stairs(book))
        self.assertEqual(sum(len(step) for step in stairs(book)), 17)
        self.gives(stairs(seventeen()), stairs, seventeen())
        many = 0
        for _ in range(200):
            n = dice.randrange(4, 18)
            deeds = []
            for _ in range(dice.randrange(1, 5)):
                kept = dice.sample(range(n), dice.randrange(1, n + 1))
                deeds.append(tuple(p if p in kept else dice.choice(kept) for p in range(n)))
            found = stairs((n, tuple(deeds)))
            if found is not None:
                many += 1
                self.short(found)
                self.assertIsNone(judge_stairs((n, tuple(deeds)), found))
        self.assertGreater(many, 50)

    def short(self, found):
        self.assertTrue(all(abs(x) < 10 ** 30 for step in found for line in step for x in line))


if __name__ == "__main__":
    unittest.main()
