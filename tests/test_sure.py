"""sure.py: S9.3."""

import random
import unittest

from drawndeeds.heaps import heap
from drawndeeds.leading import first_to_one
from drawndeeds.lumps import is_kept_parting, lumped
from drawndeeds.meeting import first_meeting, judge_still, never_met
from drawndeeds.sure import is_sure, judge_sure, judge_unsure, sure_paper, sure_parting, unsure_paper
from tests.bookssupport import EXCHANGE, ONE
from tests.support import ANYTHING, Case, deed_of
from tests.test_meeting import BOOKS, GREAT
from tests.walkssupport import EIGHTS, L, SLOPE, SWAYING, WHEEL, led_apart, pairs_of


def are_sure(members, pair):
    """Whether each member leads a pair together, or to one that some member leads together."""
    led = {led_apart(member, pair) for member in members} - {None}
    return all(any(led_apart(member, other) is None for member in members) for other in led)


class Sure(Case):
    def test_examples(self):
        self.gives(((0, 2), (1, 3)), sure_parting, SWAYING)
        self.gives(None, judge_sure, SWAYING, (1, 3), (((0, 2), (0,)), ((1, 3), (0,))))
        self.gives(None, judge_unsure, SWAYING, (0, 1), ((), never_met(SWAYING)))
        self.gives(True, is_sure, SWAYING, (1, 3))
        self.gives(False, is_sure, SWAYING, (0, 1))

    def test_edges(self):
        self.gives(((0,),), sure_parting, ONE)
        self.gives(((0,),), sure_parting, (1, ()))
        self.gives(tuple((p,) for p in range(8)), sure_parting, (8, ()))
        self.gives(((0,), (1,)), sure_parting, EXCHANGE)
        self.gives((tuple(range(8)),), sure_parting, EIGHTS)
        self.gives(False, is_sure, (8, ()), (6, 7))
        # 1 and 2 meet, but a word leads them to both ends.
        self.gives(False, is_sure, L, (1, 2))
        self.gives(((0,), (1,), (2,), (3,)), sure_parting, L)
        self.gives(None, sure_paper, L, (1, 2))
        word, lot = self.gives(unsure_paper(L, (1, 2)), unsure_paper, L, (1, 2))
        self.assertIn(led_apart(deed_of(L, word), (1, 2)), lot)

    def test_by_the_heap(self):
        for book in BOOKS:
            members = heap(book)
            wanted = {pair: are_sure(members, pair) for pair in pairs_of(book[0])}
            for pair, sure in wanted.items():
                self.gives(sure, is_sure, book, pair)
            lots = []
            for p in range(book[0]):
                for k, lot in enumerate(lots):
                    if wanted[(lot[0], p)]:
                        lots[k] = lot + (p,)
                        break
                else:
                    lots.append((p,))
            self.gives(tuple(lots), sure_parting, book)

    def test_what_holds(self):
        for book in BOOKS + GREAT:
            parting = self.gives(sure_parting(book), sure_parting, book)
            for p, q in pairs_of(book[0]):
                self.assertIs(is_sure(book, (p, q)), any(p in lot and q in lot for lot in parting))
            self.assertTrue(is_kept_parting(book, parting))
            lumps = lumped(book, parting)
            self.assertFalse(any(is_sure(lumps, pair) for pair in pairs_of(lumps[0])))
            self.assertIs(len(parting) == 1, first_to_one(book) is not None)

    def test_papers_of_just_one_sort(self):
        for book in BOOKS + GREAT:
            for pair in pairs_of(book[0]):
                sure = self.gives(sure_paper(book, pair), sure_paper, book, pair)
                unsure = self.gives(unsure_paper(book, pair), unsure_paper, book, pair)
                self.assertIs(sure is None, unsure is not None)
                self.assertIs(sure is None, not is_sure(book, pair))
                if sure is not None:
                    self.gives(None, judge_sure, book, pair, sure)
                    self.assertTrue(all(len(word) <= 2000 for _, word in sure))
                else:
                    self.gives(None, judge_unsure, book, pair, unsure)
                    self.assertLessEqual(len(unsure[0]), 2000)

    def test_no_paper_of_the_other_sort(self):
        """Of all that might be papers those that the document's words tell right show what is so."""
        chance = random.Random(103)
        for book in [WHEEL, SWAYING, SLOPE, L, EXCHANGE] + BOOKS[::6]:
            pairs = pairs_of(book[0])
            for pair in pairs:
                for _ in range(6):
                    among = sorted(other for other in pairs if chance.random() < 0.8)
                    paper = tuple((other, first_meeting(book, other) or ()) for other in among)
                    right = pair in among and all(
                        led_apart(deed_of(book, word), other) is None
                        and all(led_apart(deed, other) in among + [None] for deed in book[1]) for other, word in paper)
                    self.assertIs(judge_sure(book, pair, paper) is None, right)
                    self.assertTrue(is_sure(book, pair) or not right)
                    word = tuple(chance.randrange(len(book[1])) for _ in range(chance.randrange(4))) if book[1] else ()
                    led = led_apart(deed_of(book, word), pair)
                    found = judge_unsure(book, pair, (word, tuple(among)))
                    wanted = ("together",) if led is None else judge_still(book, led, tuple(among))
                    self.assertEqual(found, wanted)
                    self.assertTrue(not is_sure(book, pair) or found is not None)


class Judges(Case):
    def test_sure_papers(self):
        entry = ((0, 2), (0,))
        paper = (entry, ((1, 3), (0,)))
        self.gives(None, judge_sure, SWAYING, (0, 2), (entry, ((1, 3), (0, 1) * 1000)))
        self.gives(("order", 1), judge_sure, SWAYING, (1, 3), (entry, entry))
        self.gives(("order", 1), judge_sure, SWAYING, (1, 3), (paper[1], entry))
        self.gives(("order", 1), judge_sure, SWAYING, (0, 1), (entry, ((0, 2), (1,))))
        self.gives(("lacks",), judge_sure, SWAYING, (0, 1), paper)
        self.gives(("lacks",), judge_sure, SWAYING, (0, 1), ())
        self.gives(("word", 0), judge_sure, SWAYING, (0, 2), (((0, 2), ()), ((1, 3), ())))
        self.gives(("word", 1), judge_sure, SWAYING, (0, 2), (entry, ((1, 3), (1,))))
        self.gives(("out", 0, 1), judge_sure, SWAYING, (0, 2), (entry,))
        # Each entry is looked at completely ahead of the next one.
        self.gives(("out", 0, 1), judge_sure, SWAYING, (0, 2), (entry, ((2, 3), ())))
        self.gives(("word", 0), judge_sure, SWAYING, (0, 2), (((0, 2), (1,)),))
        self.gives(("out", 0, 0), judge_sure, WHEEL, (0, 3), (((0, 3), (1,)),))

    def test_unsure_papers(self):
        lot = never_met(SWAYING)
        self.gives(None, judge_unsure, SWAYING, (0, 1), ((1,) * 2000, lot))
        self.gives(("together",), judge_unsure, SWAYING, (0, 2), ((0,), None))
        self.gives(("form",), judge_unsure, SWAYING, (0, 1), ((0,), None))
        self.gives(("lacks",), judge_unsure, SWAYING, (0, 2), ((1,), lot))
        self.gives(("lacks",), judge_unsure, SWAYING, (0, 1), ((1,), ((0, 1),)))
        self.gives(("order", 1), judge_unsure, SWAYING, (0, 1), ((1,), lot[:1] * 2))
        self.gives(("out", 0, 1), judge_unsure, SWAYING, (0, 1), ((), lot[:1]))
        self.gives(("together", 1, 0), judge_unsure, SWAYING, (0, 1), ((), (lot[0], (0, 2)) + lot[1:]))

    def test_form(self):
        for value in ANYTHING:
            self.gives(("lacks",) if value in ((), (((0, 1), ()),)) else ("form",), judge_sure, SWAYING, (1, 3), value)
            self.gives(("lacks",) if value == ((0, 1), ()) else ("form",), judge_sure, SWAYING, (1, 3), (value,))
            if value != (0, 1) or isinstance(value, list):
                self.gives(("form",), judge_sure, SWAYING, (1, 3), ((value, (0,)),))
            if isinstance(value, list) or value not in ((), (0,), (1,), (0, 1), (1, 0)):
                self.gives(("form",), judge_sure, SWAYING, (1, 3), (((1, 3), value),))
                self.gives(("form",), judge_unsure, SWAYING, (0, 1), (value, never_met(SWAYING)))
            if value not in (((0, 1), ()), [(0, 1), ()]):
                self.gives(("form",), judge_unsure, SWAYING, (0, 1), value)
            if not (isinstance(value, tuple) and value in ((), ((0, 1),))):
                self.gives(("form",), judge_unsure, SWAYING, (0, 1), ((), value))
        paper = sure_paper(SWAYING, (1, 3))
        for bad in (list(paper), paper + ((),), (paper[0][:1],), (paper[0] + ((),),), (list(paper[0]),),
                    (((0, 2), [0]),), (((2, 0), (0,)),), (((0, 4), (0,)),), (((0, 0), (0,)),), (((0, 2), (2,)),),
                    (((0, 2), (True,)),), (([0, 2], (0,)),), (((False, 2), (0,)),)):
            self.gives(("form",), judge_sure, SWAYING, (0, 2), bad)
        for bad in ([(), never_met(SWAYING)], ((),), ((), (), ()), ((2,), never_met(SWAYING)), ((), [(0, 1)]),
                    ((), ((1, 0),))):
            self.gives(("form",), judge_unsure, SWAYING, (0, 1), bad)


if __name__ == "__main__":
    unittest.main()
