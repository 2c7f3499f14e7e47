"""rounds.py: S8.6."""

import random
import unittest
from itertools import product as choices_of
from math import gcd

from drawndeeds.ends import ends
from drawndeeds.rounds import judge_round_paper, round_lots, round_of, round_paper
from tests.bookssupport import EXCHANGE, FALLS, ONE
from tests.support import ANYTHING, Case, deed_of, heap_of_5040
from tests.walkssupport import ALL_MAPS, EIGHTS, L, R, S, SEVERAL, THREE_ENDS, WALKS, letters_words, ring_of

BOOKS = WALKS + [ALL_MAPS, EIGHTS, FALLS, heap_of_5040()]
BOOKS += [ring_of(lots, more) for lots in range(1, 9) for more in range(4) if lots + more < 9]


def lengths_back(book, first, longest):
    """The numbers t up to this such that a word of t letters leads the first place to itself."""
    found = []
    now = {first}
    for t in range(1, longest + 1):
        now = {deed[p] for p in now for deed in book[1]}
        if first in now:
            found.append(t)
    return found


def are_round(book, places, lots):
    if sorted(p for lot in lots for p in lot) != list(places) or () in lots or places[0] not in lots[0]:
        return False
    return all(deed[p] in lots[(j + 1) % len(lots)] for j, lot in enumerate(lots) for p in lot for deed in book[1])


class Rounds(Case):
    def test_examples(self):
        self.gives(1, round_of, R, 0)
        self.gives(((0, 2), (1, 3)), round_lots, S, 0)
        self.gives(2, round_of, S, 0)
        self.gives(None, judge_round_paper, S, 0, (((0, 2), (1, 3)), ((1, 1),)))
        self.gives(("round",), judge_round_paper, S, 0, (((0, 2), (1, 3)), ((0, 0, 0, 0),)))

    def test_edges(self):
        self.gives(1, round_of, ONE, 0)
        self.gives(((0,),), round_lots, ONE, 0)
        self.gives(((0,), (1,)), round_lots, EXCHANGE, 0)
        self.gives(((3,),), round_lots, L, 1)
        self.gives(1, round_of, SEVERAL, 2)
        for many in range(1, 9):
            self.gives(many, round_of, ring_of(many), 0)
            self.gives(tuple((p,) for p in range(many)), round_lots, ring_of(many), 0)
        self.gives(((0, 4, 5), (1,), (2,), (3,)), round_lots, (6, (
            (1, 2, 3, 0, 1, 1), (1, 2, 3, 4, 1, 1), (1, 2, 3, 5, 1, 1))), 0)
        # Two rings of two lots each, and a place outside of both.
        book = (5, ((1, 0, 3, 2, 0), (1, 0, 3, 2, 4)))
        self.gives(((0,), (1,)), round_lots, book, 0)
        self.gives(((2,), (3,)), round_lots, book, 1)
        self.gives(2, round_of, book, 1)
        self.gives(3, round_of, (8, ((3, 3, 3, 5, 5, 0, 0, 1), (4, 4, 4, 5, 5, 1, 0, 2), (3, 4, 3, 5, 5, 2, 0, 6))), 0)

    def test_rounds_by_lengths(self):
        for book in BOOKS:
            for k, places in enumerate(ends(book)):
                wanted = 0
                for t in lengths_back(book, places[0], 70):
                    wanted = gcd(wanted, t)
                self.gives(wanted, round_of, book, k)
                lots = self.gives(round_lots(book, k), round_lots, book, k)
                self.assertEqual(len(lots), wanted)
                self.assertTrue(are_round(book, places, lots))
                self.assertTrue(all(lot == tuple(sorted(lot)) for lot in lots))

    def test_there_are_only_these_lots(self):
        for book in BOOKS:
            for k, places in enumerate(ends(book)):
                if len(places) < 6:
                    many = round_of(book, k)
                    right = []
                    for told in choices_of(range(many), repeat=len(places)):
                        lots = tuple(tuple(p for p, j in zip(places, told) if j == at) for at in range(many))
                        if are_round(book, places, lots):
                            right.append(lots)
                    self.assertEqual(right, [round_lots(book, k)])


class Papers(Case):
    def test_papers(self):
        for book in BOOKS:
            for k in range(len(ends(book))):
                paper = self.gives(round_paper(book, k), round_paper, book, k)
                self.gives(None, judge_round_paper, book, k, paper)
                self.plain(round_lots(book, k), paper[0])
                self.assertTrue(all(len(word) <= 200 for word in paper[1]))
                self.gives(None, judge_round_paper, book, k, (paper[0], paper[1] + paper[1]))

    def test_all_right_papers_tell_the_round(self):
        chance = random.Random(95)
        for book in BOOKS[::3] + [S, R, SEVERAL, THREE_ENDS]:
            for k, places in enumerate(ends(book)):
                words = letters_words(len(book[1]), 4)[1:]
                back = [word for word in words if deed_of(book, word)[places[0]] == places[0]]
                for _ in range(30):
                    many = chance.randrange(1, 4)
                    told = [0] + [chance.randrange(many) for _ in places[1:]]
                    lots = tuple(tuple(p for p, j in zip(places, told) if j == at) for at in range(many))
                    words = tuple(chance.choice(back) for _ in range(chance.randrange(4))) if back else ()
                    divisor = 0
                    for word in words:
                        divisor = gcd(divisor, len(word))
                    right = are_round(book, places, lots) and divisor == many
                    found = judge_round_paper(book, k, (lots, words))
                    self.assertIs(found is None, right)
                    if right:
                        self.assertEqual(many, round_of(book, k))

    def test_faults_in_their_sequence(self):
        lots, words = ((0, 2), (1, 3)), ((1, 1),)
        self.gives(None, judge_round_paper, S, 0, (lots, ((0, 0, 0, 0), (1, 0, 1, 0), (1, 1), (0,) * 2000)))
        self.gives(("lots",), judge_round_paper, S, 0, (((1, 3), (0, 2)), ((0,),)))
        self.gives(("lots",), judge_round_paper, S, 0, (((0, 2), (1,)), words))
        self.gives(("lots",), judge_round_paper, S, 0, (((0, 2), (1, 2, 3)), words))
        self.gives(("lots",), judge_round_paper, S, 0, (((0, 2), (0, 2), (1, 3)), words))
        self.gives(("lots",), judge_round_paper, L, 1, (((0,),), ((0,),)))
        self.gives(("lots",), judge_round_paper, L, 1, (((2, 3),), ((0,),)))
        self.gives(("round",), judge_round_paper, S, 0, (((0, 1, 2, 3),), words))
        self.gives(("next", 0, 0), judge_round_paper, S, 0, (((0, 1), (2, 3)), ((0,),)))
        self.gives(("next", 0, 2), judge_round_paper, S, 0, (((0, 2), (1,), (3,)), ((0,),)))
        self.gives(("next", 1, 1), judge_round_paper, S, 0, (((0,), (1, 3), (2,)), ((0,),)))
        self.gives(("next", 0, 0), judge_round_paper, R, 0, (((0, 1), (2,)), ((0,),)))
        self.gives(("word", 0), judge_round_paper, S, 0, (lots, ((0,),)))
        self.gives(("word", 1), judge_round_paper, S, 0, (lots, ((1, 1), (0, 0), (0, 0, 0))))
        self.gives(("round",), judge_round_paper, S, 0, (lots, ()))
        self.gives(("round",), judge_round_paper, S, 0, (((0, 1, 2, 3),), ((1, 1), (0, 0, 0, 0))))
        self.gives(("round",), judge_round_paper, ONE, 0, (((0,),), ((0, 1), (1, 1))))
        self.gives(None, judge_round_paper, ONE, 0, (((0,),), ((0, 1), (1,))))
        self.gives(("word", 0), judge_round_paper, SEVERAL, 0, (((0, 1),), ((0,), (1,))))

    def test_form(self):
        lots, words = right = round_paper(S, 0)
        for value in ANYTHING:
            self.gives(("form",), judge_round_paper, S, 0, value)
            self.gives(("form",), judge_round_paper, S, 0, (value, words))
            if not isinstance(value, tuple) or value in ((0,), (1,), (0, 1), (1, 0)):
                self.gives(("form",), judge_round_paper, S, 0, (lots, value))
            if value not in ((0,), (1,), (0, 1), (0, 1, 2)) or isinstance(value, list):
                self.gives(("form",), judge_round_paper, S, 0, ((value,), words))
            if value not in ((0,), (1,), (0, 1), (1, 0)) or isinstance(value, list):
                self.gives(("form",), judge_round_paper, S, 0, (lots, (value,)))
        for bad in (list(right), right + ((),), (lots,), (list(lots), words), (lots, list(words)), ((), words),
                    (lots + ((),), words), (((0, 2), (3, 1)), words), (((0, 2), (1, 1, 3)), words),
                    (((0, 2), (1, 4)), words), (((0, 2), (1, True)), words), (((0, 2), [1, 3]), words),
                    (lots, ((),)), (lots, ((1, 1), ())), (lots, ((2,),)), (lots, ((-1,),)), (lots, ([1, 1],)),
                    (lots, ((True, 1),)), (((-1, 0), (1,)), words), (None, words), (lots, None)):
            self.gives(("form",), judge_round_paper, S, 0, bad)


if __name__ == "__main__":
    unittest.main()
