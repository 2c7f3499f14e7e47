"""alike.py: S7.1 to S7.4."""

import random
import unittest
from fractions import Fraction

from drawndeeds.alike import are_alike, judge_likeness, judge_telling, likeness, pairs, telling_word
from drawndeeds.errors import TooMany, UnlikeLetters
from drawndeeds.lots import side_by_side
from drawndeeds.speeds import times
from tests.bookssupport import FEW, NONE, OF_SUMS, ONE, W, determinant, held_of, less_from
from tests.support import ANYTHING, Case, E, all_books, deed_of, heap_of_2000, heap_of_5040, slow_heap, words_up_to

FALL = (3, ((0, 0, 1), (0, 1, 1)))
OTHER = (3, ((0, 0, 0), (0, 1, 1)))
TURN = (2, ((1, 0),))
SINK = (2, ((0, 0),))
PAPER = (((0, 1, 2), (0, 1, 2)), ((0, 0, 1), (0, 0, 0)), ((0, 1, 1), (0, 1, 1)), ((0, 0, 0), (0, 0, 0)))

BOTH = ([(a, b) for a in all_books(2, 1) for b in all_books(2, 1) + all_books(3, 1)[::4]]
        + [(a, b) for a in all_books(2, 2)[::3] for b in all_books(2, 2)[::2]]
        + [(a, b) for a in all_books(3, 2)[::97] for b in all_books(3, 2)[::83]]
        + [((2, ()), (2, ())), ((2, ()), (3, ())), (FALL, OTHER), (FALL, FALL), (OTHER, FALL), (W, E), (ONE, ONE),
           (OF_SUMS, OF_SUMS)])


def pairs_of_2000():
    """A book with 2,000 members beside an idle one, and one with one member more."""
    n, deeds = heap_of_2000()
    idle = (1, ((0,),) * len(deeds))
    return (n, deeds), idle, (n + 1, tuple(deed + (deed[0],) for deed in deeds))


class Pairs(Case):
    def test_examples(self):
        self.gives(list(PAPER), pairs, FALL, OTHER)
        self.gives(None, telling_word, FALL, OTHER)
        self.gives((0,), telling_word, TURN, SINK)
        self.gives(PAPER, likeness, FALL, OTHER)
        self.gives(None, likeness, TURN, SINK)
        self.gives(True, are_alike, FALL, OTHER)
        self.gives(False, are_alike, TURN, SINK)

    def test_edges(self):
        self.gives([((0, 1, 2), (0, 1, 2))], pairs, NONE, NONE)
        self.gives(True, are_alike, NONE, NONE)
        self.gives((), telling_word, NONE, (2, ()))
        self.gives(None, likeness, NONE, (2, ()))
        self.gives((((0,), (0,)),), likeness, ONE, ONE)
        self.gives((), telling_word, ONE, (2, ((1, 0), (0, 1))))

    def test_by_words(self):
        for book, other in BOTH[:-1]:
            n = book[0]
            found = slow_heap(side_by_side(book, other))
            wanted = [(m[:n], tuple(q - n for q in m[n:])) for m in found]
            self.gives(wanted, pairs, book, other)
            words = [word for (a, b), word in zip(wanted, found.values())
                     if sum(a[p] == p for p in range(n)) != sum(b[p] == p for p in range(other[0]))]
            word = self.gives(words[0] if words else None, telling_word, book, other)
            self.gives(not words, are_alike, book, other)
            self.gives(None if words else tuple(wanted), likeness, book, other)
            if words:
                self.gives(None, judge_telling, book, other, word)
                self.assertEqual(judge_likeness(book, other, tuple(wanted))[0], "held")
                for ahead in words_up_to(len(book[1]), len(word)):
                    if ahead == word:
                        break
                    self.assertEqual(held_of(book, ahead), held_of(other, ahead))
            else:
                self.gives(None, judge_likeness, book, other, tuple(wanted))
                self.assertEqual(book[0], other[0])

    def test_bounds(self):
        great, idle, more = pairs_of_2000()
        calls = (pairs, telling_word, are_alike, likeness)
        self.assertEqual(len(pairs(great, idle)), 2000)
        self.assertEqual(len(pairs(idle, great)), 2000)
        self.gives((), telling_word, great, idle)
        self.gives(False, are_alike, great, idle)
        self.gives(None, likeness, great, idle)
        self.gives(("form",), judge_likeness, great, idle, None)
        for book in (more, heap_of_5040()):
            idle = (1, ((0,),) * len(book[1]))
            for call in calls:
                self.refused(TooMany, {}, call, book, idle)
                self.refused(TooMany, {}, call, idle, book)
            for value in (None, (), [], PAPER):
                self.refused(TooMany, {}, judge_likeness, book, idle, value)
            self.gives(("form",), judge_telling, book, idle, None)
            self.gives(None, judge_telling, book, idle, ())

    def test_unlike_letters_come_first(self):
        for book, other in ((FALL, TURN), (TURN, NONE), (NONE, heap_of_5040()), (heap_of_5040(), TURN)):
            for call in (pairs, telling_word, are_alike, likeness):
                self.refused(UnlikeLetters, {}, call, book, other)
            for call in (judge_telling, judge_likeness):
                for value in (None, (), [], (0,)):
                    self.refused(UnlikeLetters, {}, call, book, other, value)

    def test_likeness_of_2000_pairs(self):
        great = pairs_of_2000()[0]
        paper = likeness(great, great)
        self.assertEqual(len(paper), 2000)
        self.gives(None, judge_likeness, great, great, paper)
        self.gives(None, judge_likeness, great, great, paper[::-1])
        self.assertEqual(judge_likeness(great, great, paper[:-1])[0], "open")


class JudgeTelling(Case):
    def test_faults(self):
        self.gives(("same", 2), judge_telling, TURN, SINK, ())
        self.gives(None, judge_telling, TURN, SINK, (0,))
        self.gives(None, judge_telling, TURN, SINK, (0,) * 2000)
        self.gives(("same", 1), judge_telling, FALL, OTHER, (0, 1) * 1000)
        for value in ANYTHING + [(1,), (0, True), [0], (0, 1), (0, -1), "0"]:
            if value not in ((), (0,)):
                self.gives(("form",), judge_telling, TURN, SINK, value)


class JudgeLikeness(Case):
    def test_faults(self):
        self.gives(("open", 0, 0), judge_likeness, TURN, SINK, (((0, 1), (0, 1)),))
        self.gives(("open", 1, 0), judge_likeness, FALL, OTHER, PAPER[:3])
        self.gives(None, judge_likeness, FALL, OTHER, PAPER[::-1])
        self.gives(("idle",), judge_likeness, FALL, OTHER, ())
        self.gives(("idle",), judge_likeness, FALL, OTHER, PAPER[1:])
        self.gives(("idle",), judge_likeness, TURN, SINK, (((1, 0), (0, 0)),))
        self.gives(("held", 1), judge_likeness, TURN, SINK, (((0, 1), (0, 1)), ((1, 0), (0, 0))))
        # A pair is looked at wholly ahead of the next one.
        self.gives(("open", 0, 0), judge_likeness, TURN, SINK, (((0, 1), (0, 1)), ((1, 0), (0, 1))))
        self.gives(("held", 0), judge_likeness, TURN, SINK, (((1, 0), (0, 0)), ((0, 1), (0, 1))))
        self.gives(("held", 0), judge_likeness, NONE, (2, ()), (((0, 1, 2), (0, 1)),))
        self.gives(None, judge_likeness, NONE, NONE, (((0, 1, 2), (0, 1, 2)),))
        self.gives(None, judge_likeness, NONE, NONE, (((0, 1, 2), (0, 1, 2)), ((0, 0, 0), (1, 1, 1))))

    def test_form(self):
        for value in ANYTHING + [PAPER + PAPER[:1], (PAPER[1], PAPER[1]), list(PAPER), (list(PAPER[0]),),
                                 (PAPER[0], ((0, 1, 2),)), (((0, 1, 2), (0, 1, 2), ()),), (((0, 1), (0, 1, 2)),),
                                 (((0, 1, 2), (0, 1, 3)),), (((0, 1, 2), [0, 1, 2]),), (((0, True, 2), (0, 1, 2)),),
                                 PAPER + (None,), (((0, 1, 2), None),)]:
            if value != ():
                self.gives(("form",), judge_likeness, FALL, OTHER, value)

    def test_2500_pairs(self):
        book = (5, ((0, 0, 1, 2, 3),))
        deeds = [deed_of((5, ((0, 1, 2, 3, 4),)), ())] + [(a, b, c, d, 0) for a in range(1, 5) for b in (0, 2, 3, 4)
                                                          for c in (0, 1, 3, 4) for d in (0, 1, 2, 4)]
        value = ((deeds[0], deeds[0]),) + tuple((a, b) for a in deeds[1:] for b in deeds[1:])[:2499]
        self.assertEqual(len(value), 2500)
        self.gives(("open", 0, 0), judge_likeness, book, book, value)

    def test_each_paper_has_all_pairs(self):
        chance = random.Random(41)
        for book, other in BOTH:
            if not are_alike(book, other):
                continue
            paper = list(likeness(book, other))
            for _ in range(3):
                some = [pair for pair in paper if chance.random() < 0.8]
                chance.shuffle(some)
                fault = judge_likeness(book, other, tuple(some))
                self.assertIs(fault is None, len(some) == len(paper))


class WhatHolds(Case):
    def test_alike_exactly_if_determinants_are_the_same(self):
        chance = random.Random(42)
        for book, other in BOTH:
            if book[0] != other[0] or book == OF_SUMS:
                continue
            found = pairs(book, other)
            same = True
            for _ in range(4):
                weights = [Fraction(chance.randrange(-50, 50)) for _ in found]
                z = Fraction(chance.randrange(-999, 999), 7)
                rows = [[[Fraction(0)] * book[0] for _ in range(book[0])] for _ in range(2)]
                for weight, pair in zip(weights, found):
                    for at in range(2):
                        for p, q in enumerate(pair[at]):
                            rows[at][p][q] += weight
                same = same and determinant(less_from(z, rows[0])) == determinant(less_from(z, rows[1]))
            self.assertIs(are_alike(book, other), same)

    def test_alike_exactly_if_times_are_the_same(self):
        for book, other in BOTH + [(a, b) for a in FEW for b in FEW if len(a[1]) == len(b[1])]:
            told, more = times(book), times(other)
            if told is not None and more is not None:
                self.assertIs(are_alike(book, other), told == more)
            elif (told is None) != (more is None):
                self.assertFalse(are_alike(book, other))

    def test_the_examples_times(self):
        self.gives((((), 1), ((0, 1), 1), ((1,), 1)), times, FALL)
        self.gives((((), 1), ((0, 1), 1), ((1,), 1)), times, OTHER)


if __name__ == "__main__":
    unittest.main()
