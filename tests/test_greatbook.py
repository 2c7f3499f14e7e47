"""A book with 399 members: answers about it, told by what they were before they were made to come sooner."""

import hashlib
import unittest

from drawndeeds.books import product
from drawndeeds.comings import barring_paper, coming_paper, judge_barring, judge_coming, kinds
from drawndeeds.counts import has_length, head_and_loop, lengths, word_counts
from drawndeeds.heaps import heap, least_word, least_words, left_steps, number_of, right_steps
from tests.bookssupport import OF_SUMS, TWENTY
from tests.support import Case, FIVES

IDLE = (0, 1, 2, 3, 4, 5, 6, 7)
MEMBER = (0, 1, 2, 7, 4, 5, 2, 6)
WAYS = ("behind", "ahead", "around")

# What stands here was told by the program as it was when these questions took long.
MARKS = {
    "heap": "4fb8775aed62f0f4",
    "words": "995593f830f0939f",
    "right": "17f2ab1fbfbcde34",
    "left": "5c5e54789fdbee8d",
    "kinds behind": "3f7b39d2b3721175",
    "coming behind": "82685eb9d69311df",
    "barring behind": "5b12b3928c7212a0",
    "all comings behind": "f334b7bfcf6e8188",
    "all barrings behind": "debb5b580d5ad76c",
    "kinds ahead": "8226bede6cd64641",
    "coming ahead": "44bc5d3203f85213",
    "barring ahead": "357d1553c58b816c",
    "all comings ahead": "8b03d4472b1973c8",
    "all barrings ahead": "7f571bb899cb350d",
    "kinds around": "8226bede6cd64641",
    "coming around": "82685eb9d69311df",
    "barring around": "9434119763f9bdfd",
    "all comings around": "8e6a976a57827844",
    "all barrings around": "5465e67732abbabe",
    "head and loop": "a0e87781cda30995",
    "lengths": "58be2241b4de9d80",
    "has length": "be31eeb6e600c326",
    "counts": "b6e2201eb5970cd5",
    "numbers": "ed50def84eea0558",
}


def mark_of(value):
    return hashlib.sha256(repr(value).encode()).hexdigest()[:16]


def answers(book, a, m):
    """All questions that took long, with their answers."""
    found = {"heap": heap(book), "words": least_words(book), "right": right_steps(book), "left": left_steps(book)}
    for way in WAYS:
        found["kinds", way] = kinds(book, way)
        for one, other in ((a, m), (m, a), (m, m)):
            found["coming", way, one, other] = coming_paper(book, way, one, other)
            found["barring", way, one, other] = barring_paper(book, way, one, other)
        found["all comings", way] = [coming_paper(book, way, a, other) for other in heap(book)[::9]]
        found["all barrings", way] = [barring_paper(book, way, other, a) for other in heap(book)[::9]]
    found["head and loop"] = head_and_loop(book)
    found["lengths"] = [lengths(book, other) for other in heap(book)[::9]]
    found["has length"] = [has_length(book, other, t) for other in heap(book)[::40] for t in (0, 7, 30, 10 ** 30)]
    found["counts"] = [word_counts(book, t) for t in list(range(16)) + [30, 61, 400]]
    found["numbers"] = [(number_of(book, other), least_word(book, other)) for other in heap(book)[::40]]
    return found


class GreatBook(Case):
    def test_answers_are_as_they_were(self):
        told = {}
        for name, answer in answers(OF_SUMS, IDLE, MEMBER).items():
            told.setdefault(name if isinstance(name, str) else name[0] + " " + name[1], []).append(answer)
        self.assertEqual({name: mark_of(value) for name, value in told.items()}, MARKS)

    def test_books_of_twenty_members(self):
        for book, m, mark in ((TWENTY, (0, 1, 0, 0, 4), "bbe31e7496016d00"), (FIVES, (0, 2, 4, 1, 3), "2feae65011473322")):
            self.assertEqual(mark_of(list(answers(book, (0, 1, 2, 3, 4), m).values())), mark)

    def test_some_of_them(self):
        self.assertEqual(len(heap(OF_SUMS)), 399)
        self.gives(True, has_length, OF_SUMS, IDLE, 0)
        self.gives(False, has_length, OF_SUMS, IDLE, 7)

    def test_steps_are_products(self):
        members = heap(OF_SUMS)
        number = {m: k for k, m in enumerate(members)}
        self.assertEqual(right_steps(OF_SUMS), [[number[product(m, d)] for d in OF_SUMS[1]] for m in members])
        self.assertEqual(left_steps(OF_SUMS), [[number[product(d, m)] for d in OF_SUMS[1]] for m in members])

    def test_papers_are_right(self):
        for way in WAYS:
            for a, m in ((IDLE, MEMBER), (MEMBER, IDLE)):
                paper, bar = coming_paper(OF_SUMS, way, a, m), barring_paper(OF_SUMS, way, a, m)
                self.assertIs(paper is None, bar is not None)
                if paper is None:
                    self.gives(None, judge_barring, OF_SUMS, way, a, m, bar)
                else:
                    self.gives(None, judge_coming, OF_SUMS, way, a, m, paper)

    def test_counts_by_steps(self):
        steps = right_steps(OF_SUMS)
        now = [1] + [0] * 398
        for t in range(31):
            self.gives(tuple(now), word_counts, OF_SUMS, t)
            later = [0] * 399
            for count, row in zip(now, steps):
                for led in row:
                    later[led] += count
            now = later

    def test_what_is_returned_is_new(self):
        steps = right_steps(OF_SUMS)
        steps[0][0] = None
        left_steps(OF_SUMS)[0][0] = None
        least_words(OF_SUMS).clear()
        self.assertEqual(mark_of([right_steps(OF_SUMS)]), MARKS["right"])
        self.assertEqual(mark_of([left_steps(OF_SUMS)]), MARKS["left"])
        for steps in (right_steps(OF_SUMS), left_steps(OF_SUMS), right_steps((2, ((1, 0),))), left_steps((2, ((1, 0),)))):
            self.assertEqual(len({id(row) for row in steps}), len(steps))


if __name__ == "__main__":
    unittest.main()
