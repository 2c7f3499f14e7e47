"""comings.py: S3.1 and S3.2."""

import unittest

from drawndeeds.books import done, product
from drawndeeds.comings import barring_paper, coming_paper, judge_barring, judge_coming, kinds
from drawndeeds.heaps import heap
from tests.support import ANYTHING, B, Case, E, MIDDLE, SMALL, all_books, heap_of_400

WAYS = ("behind", "ahead", "around")
SOME = SMALL[::4] + [book for book in MIDDLE if len(heap(book)) < 30]


def comes(members, way, a, m):
    """Whether m comes of a, by the words of S3.1."""
    if way == "behind":
        return any(product(a, x) == m for x in members)
    if way == "ahead":
        return any(product(x, a) == m for x in members)
    return any(product(product(x, a), y) == m for x in members for y in members)


def subsets(members):
    for mask in range(1 << len(members)):
        yield tuple(member for k, member in enumerate(members) if mask >> k & 1)


class Comings(Case):
    def test_example(self):
        found = coming_paper(E, "ahead", (1, 0, 1), (0, 1, 1))
        self.assertIsNone(judge_coming(E, "ahead", (1, 0, 1), (0, 1, 1), found))
        self.gives(None, judge_coming, E, "ahead", (1, 0, 1), (0, 1, 1), ((1, 0), ()))
        self.gives(("step", 0, 0), judge_barring, E, "behind", (1, 0, 1), (0, 1, 1), ((1, 0, 1),))
        self.gives([((0, 1, 2),), ((1, 0, 1), (0, 1, 0)), ((0, 1, 1), (1, 0, 0))], kinds, E, "behind")
        last = ((1, 0, 1), (0, 1, 1), (0, 1, 0), (1, 0, 0))
        self.gives([((0, 1, 2),), last], kinds, E, "ahead")
        self.gives([((0, 1, 2),), last], kinds, E, "around")

    def test_just_one_paper(self):
        for book in SOME:
            members = heap(book)
            for way in WAYS:
                for a in members:
                    for m in members:
                        wanted = comes(members, way, a, m)
                        coming = coming_paper(book, way, a, m)
                        barring = barring_paper(book, way, a, m)
                        self.assertIs(coming is not None, wanted)
                        self.assertIs(barring is None, wanted)
                        if wanted:
                            self.assertIsNone(judge_coming(book, way, a, m, coming))
                        else:
                            self.assertIsNone(judge_barring(book, way, a, m, barring))
                            self.assertEqual(barring, tuple(b for b in members if comes(members, way, a, b)))

    def test_papers_are_repeated_and_plain(self):
        found = self.gives(coming_paper(E, "around", (1, 0, 1), (1, 0, 0)), coming_paper, E, "around", (1, 0, 1),
                           (1, 0, 0))
        self.assertIs(found.__class__, tuple)
        self.gives(((), ()), coming_paper, (3, ()), "around", (0, 1, 2), (0, 1, 2))
        self.gives(((1, 0, 1), (0, 1, 0)), barring_paper, E, "behind", (1, 0, 1), (0, 1, 1))
        self.gives(None, barring_paper, (1, ()), "behind", (0,), (0,))

    def test_judge_coming(self):
        a, m = (1, 0, 1), (0, 1, 1)
        for value in ANYTHING:
            if not isinstance(value, tuple) or len(value) != 2:
                self.gives(("form",), judge_coming, E, "around", a, m, value)
        for value in ([(), ()], ((),), ((), (), ()), ([], ()), ((), []), ((2,), ()), ((), (True,)), ((0, -1), ()),
                      (None, ()), ("", ()), ((), {})):
            for way in WAYS:
                self.gives(("form",), judge_coming, E, way, a, m, value)
        self.gives(("side",), judge_coming, E, "behind", a, m, ((0,), ()))
        self.gives(("side",), judge_coming, E, "ahead", a, m, ((1, 0), (0,)))
        self.gives(("does",), judge_coming, E, "behind", a, m, ((), (0,)))
        self.gives(("does",), judge_coming, E, "ahead", a, m, ((), ()))
        self.gives(("does",), judge_coming, E, "around", a, m, ((0,), (0,)))
        self.gives(None, judge_coming, E, "around", a, m, ((1, 0), (0, 0)))
        self.gives(None, judge_coming, E, "behind", a, a, ((), (0,) * 2000))

    def test_judge_coming_by_products(self):
        words = [(), (0,), (1,), (1, 0), (0, 1)]
        for book in all_books(2, 2):
            members = heap(book)
            for way in WAYS:
                for a in members:
                    for m in members:
                        for u in words:
                            for v in words:
                                fault = None
                                if product(product(done(book, u), a), done(book, v)) != m:
                                    fault = ("does",)
                                if (u and way == "behind") or (v and way == "ahead"):
                                    fault = ("side",)
                                self.assertEqual(judge_coming(book, way, a, m, (u, v)), fault)


class Barring(Case):
    def test_form(self):
        idle, turn = (0, 1), (1, 0)
        for value in ANYTHING:
            if value != ():
                self.gives(("form",), judge_barring, B, "behind", idle, turn, value)
        for value in ([idle], (idle, [1, 0]), (idle, (True, 0)), (idle, (1, 2)), (idle, (0,)), (None,),
                      ((0, 1, 2),), ((idle,),)):
            self.gives(("form",), judge_barring, B, "behind", idle, turn, value)
        self.gives(("form",), judge_barring, (2, ((0, 0),)), "behind", idle, (0, 0), (idle, (1, 1)))

    def test_faults_in_their_order(self):
        members = heap(E)
        a, m = members[1], members[2]
        for way in WAYS:
            self.gives(("order", 1), judge_barring, E, way, a, m, (members[1], members[1]))
            self.gives(("order", 2), judge_barring, E, way, a, m, (members[0], members[2], members[1], members[0]))
            self.gives(("start",), judge_barring, E, way, a, m, ())
            self.gives(("start",), judge_barring, E, way, a, m, (members[2],))
            self.gives(("holds",), judge_barring, E, way, a, m, (members[1], members[2]))
            self.gives(("holds",), judge_barring, E, way, a, a, (members[1],))
        self.gives(("step", 0, 0), judge_barring, E, "behind", a, m, (members[1],))
        self.gives(("step", 0, 0), judge_barring, E, "behind", a, m, (members[1], members[4]))
        self.gives(("step", 2, 0), judge_barring, E, "behind", a, m, (members[1], members[3], members[4]))
        self.gives(None, judge_barring, E, "behind", a, m, (members[1], members[3]))
        self.gives(("step", 0, 1), judge_barring, E, "behind", a, m, (members[0], members[1], members[3]))

    def test_by_all_lists_of_members(self):
        for book in all_books(2, 2) + [E]:
            members = heap(book)
            for way in WAYS:
                for a in members[1:3]:
                    for m in members[:2]:
                        for value in subsets(members):
                            self.assertEqual(judge_barring(book, way, a, m, value),
                                             self.slow_fault(book, way, a, m, value))

    def slow_fault(self, book, way, a, m, value):
        if a not in value:
            return ("start",)
        if m in value:
            return ("holds",)
        for k, member in enumerate(value):
            for letter, deed in enumerate(book[1]):
                if way != "ahead" and product(member, deed) not in value:
                    return ("step", k, letter)
                if way != "behind" and product(deed, member) not in value:
                    return ("step", k, letter)
        return None

    def test_no_letters(self):
        self.gives(("holds",), judge_barring, (2, ()), "around", (0, 1), (0, 1), ((0, 1),))
        self.gives(("start",), judge_barring, (2, ()), "around", (0, 1), (0, 1), ())


class Kinds(Case):
    def test_by_comings(self):
        for book in SOME:
            members = heap(book)
            for way in WAYS:
                told = []
                for m in members:
                    kind = tuple(b for b in members if comes(members, way, m, b) and comes(members, way, b, m))
                    if kind not in told:
                        told.append(kind)
                self.gives(told, kinds, book, way)

    def test_no_letters(self):
        for way in WAYS:
            self.gives([((0, 1),)], kinds, (2, ()), way)
            self.gives([((0,),)], kinds, (1, ((0,), (0,))), way)

    def test_what_holds(self):
        for book in SOME:
            members = heap(book)
            kind = {way: {m: told for told in kinds(book, way) for m in told} for way in WAYS}
            for a in members:
                for m in members:
                    for way in ("behind", "ahead"):
                        if comes(members, way, a, m) and comes(members, "around", m, a):
                            self.assertEqual(kind[way][a], kind[way][m])
                    through = any(b in kind["ahead"][m] for b in kind["behind"][a])
                    self.assertIs(kind["around"][a] == kind["around"][m], through)

    def test_400_members(self):
        book = heap_of_400()
        members = heap(book)
        for way in WAYS:
            self.gives([members], kinds, book, way)
        paper = coming_paper(book, "around", members[7], members[399])
        self.gives(None, judge_coming, book, "around", members[7], members[399], paper)
        chain = (8, ((1, 2, 3, 4, 5, 6, 7, 7), (0, 0, 1, 2, 3, 4, 5, 6)))
        for way in WAYS:
            for told in kinds(chain, way):
                a = told[0]
                self.gives(None, judge_coming, chain, way, a, told[-1], coming_paper(chain, way, a, told[-1]))


if __name__ == "__main__":
    unittest.main()
