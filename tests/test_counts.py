"""counts.py: S1.8 and S1.9."""

import unittest
from itertools import product as tuples_of

from drawndeeds.counts import has_length, head_and_loop, lengths, word_counts
from drawndeeds.errors import NoMember
from drawndeeds.heaps import heap, left_steps, right_steps
from tests.support import ANYTHING, B, Case, E, MIDDLE, SMALL, apart_books, deed_of, heap_of_400


def slow_counts(book, t):
    told = {member: 0 for member in heap(book)}
    for word in tuples_of(range(len(book[1])), repeat=t):
        told[deed_of(book, word)] += 1
    return tuple(told.values())


def rounds_of(book, many):
    """The first so many rounds, as sets."""
    rounds = [{tuple(range(book[0]))}]
    while len(rounds) < many:
        rounds.append({tuple(d[p] for p in m) for m in rounds[-1] for d in book[1]})
    return rounds


def turning_book():
    """A ring of seven places beside one of eight, and a lead: HEAD 3, LOOP 56."""
    ring = tuple((p + 1) % 7 for p in range(7))
    other = tuple((p + 1) % 8 for p in range(8))
    one = ring + tuple(7 + p for p in other) + (0, 15, 16)
    return (18, (one,))


class Counts(Case):
    def test_example(self):
        self.gives((1, 0, 2, 1), word_counts, B, 2)
        self.gives((1, 0, 0, 0), word_counts, B, 0)
        self.gives((0, 1, 1, 0), word_counts, B, 1)

    def test_no_letters_one_place_alike_deeds(self):
        self.gives((1,), word_counts, (3, ()), 0)
        self.gives((0,), word_counts, (3, ()), 1)
        self.gives((0,), word_counts, (3, ()), 400)
        self.gives((2 ** 400,), word_counts, (1, ((0,), (0,))), 400)
        self.gives((0, 8), word_counts, (2, ((0, 0), (0, 0))), 3)

    def test_by_counting_words(self):
        for book in SMALL + MIDDLE:
            for t in range(6 if len(book[1]) < 4 else 3):
                self.assertEqual(word_counts(book, t), slow_counts(book, t))

    def test_sums_and_steps(self):
        for book in SMALL[::3] + MIDDLE:
            g = len(book[1])
            for t in (0, 1, 2, 5, 17, 400):
                now = word_counts(book, t)
                self.assertEqual(sum(now), g ** t)
                for steps in (right_steps(book), left_steps(book)):
                    later = [0] * len(now)
                    for k, row in enumerate(steps):
                        for number in row:
                            later[number] += now[k]
                    self.assertEqual(word_counts(book, t + 1), tuple(later))

    def test_greatest(self):
        counts = word_counts(heap_of_400(), 400)
        self.assertEqual((len(counts), sum(counts)), (400, 4 ** 400))


class Lengths(Case):
    def test_example(self):
        self.gives((2, 2), head_and_loop, B)
        self.gives((0, 2), lengths, B, (0, 1))
        self.gives((2, 3), lengths, B, (1, 1))
        self.gives((1, 3), lengths, B, (1, 0))
        self.gives((1, 2, 3), lengths, B, (0, 0))
        self.gives(True, has_length, B, (1, 1), 10 ** 30 + 1)
        self.gives(True, has_length, B, (1, 1), 10 ** 30)
        self.gives(False, has_length, B, (0, 1), 10 ** 30 + 1)
        self.gives(True, has_length, B, (0, 1), 10 ** 30)

    def test_no_letters(self):
        self.gives((1, 1), head_and_loop, (3, ()))
        self.gives((0,), lengths, (3, ()), (0, 1, 2))
        self.gives(True, has_length, (3, ()), (0, 1, 2), 0)
        self.gives(False, has_length, (3, ()), (0, 1, 2), 1)
        self.gives(False, has_length, (3, ()), (0, 1, 2), 10 ** 40)

    def test_one_place(self):
        self.gives((0, 1), head_and_loop, (1, ((0,),)))
        self.gives((0,), lengths, (1, ((0,),)), (0,))
        self.gives(True, has_length, (1, ((0,),)), (0,), 10 ** 40)

    def test_by_rounds(self):
        for book in SMALL + MIDDLE:
            rounds = rounds_of(book, 40)
            pairs = [(i, j - i) for j in range(40) for i in range(j) if rounds[i] == rounds[j]]
            head, loop = min(pairs)
            self.assertEqual(head_and_loop(book), (head, loop))
            for member in heap(book):
                told = tuple(t for t in range(head + loop) if member in rounds[t])
                self.assertEqual(lengths(book, member), told)
                for t in range(40):
                    self.assertIs(has_length(book, member, t), member in rounds[t])

    def test_lengths_are_where_counts_are_not_0(self):
        for book in SMALL[::2] + MIDDLE:
            for t in range(12):
                for member, count in zip(heap(book), word_counts(book, t)):
                    self.assertIs(has_length(book, member, t), count > 0)

    def test_long_loops(self):
        book = turning_book()
        self.gives((3, 56), head_and_loop, book)
        for k, member in enumerate(heap(book)):
            self.gives((k,), lengths, book, member)
            self.gives(k > 2, has_length, book, member, k + 56 * 10 ** 30)
            self.gives(False, has_length, book, member, k + 1 + 56 * 10 ** 30)

    def test_a_late_head(self):
        # One letter turns 16 places and the other one 5 more: a round has all members first with 79 letters.
        ring = tuple((p + 1) % 16 for p in range(16))
        book = apart_books((16, (ring,)), (5, ((1, 2, 3, 4, 0),)))
        self.gives((79, 1), head_and_loop, book)
        for member in heap(book):
            told = tuple(t for t, among in enumerate(rounds_of(book, 80)) if member in among)
            self.gives(told, lengths, book, member)
            self.gives(True, has_length, book, member, 10 ** 40)
            self.gives(78 in told, has_length, book, member, 78)

    def test_no_members(self):
        for value in [v for v in ANYTHING if v not in heap(B) or isinstance(v[0], bool)] + [(True, 0), [0, 1], (2, 0)]:
            self.refused(NoMember, {"deed": value}, lengths, B, value)
            self.refused(NoMember, {"deed": value}, has_length, B, value, 3)
            self.refused(NoMember, {"deed": value}, has_length, B, value, 10 ** 30)
        self.refused(NoMember, {"deed": (1, 0, 2)}, lengths, E, (1, 0, 2))


if __name__ == "__main__":
    unittest.main()
