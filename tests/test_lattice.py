"""lattice.py: S4.4, S4.6 and S4.7."""

import random
import unittest
from itertools import product as rows_of

from drawndeeds.errors import NoFace
from drawndeeds.faces import all_faces, face_of_member, members_of
from drawndeeds.heaps import heap, right_steps
from drawndeeds.lattice import floors, judge_marks, mark_row, signed, summed, unsummed
from tests.bookssupport import EXCHANGE, FEW, NONE, ONE, Q, SOME, TWINS, V, put_in, sums_of_400, then
from tests.support import ANYTHING, Case, heap_of_400
from tests.test_faces import no_faces


def within(f, g):
    return set(f) <= set(g)


def rows_between(faces, f, g):
    """The numbers of rows of faces from f to g, with an even and with an odd number of steps."""
    if f == g:
        return 1, 0
    even = odd = 0
    for h in faces:
        if h != g and within(f, h) and within(h, g):
            less, more = rows_between(faces, f, h)
            even, odd = even + more, odd + less
    return even, odd


class Signed(Case):
    def test_examples(self):
        self.gives(1, signed, V, (), (0, 1, 2))
        self.gives(-1, signed, V, (0,), (0, 1, 2))
        self.gives([1, 2, 3, 2], unsummed, V, [1, 3, 4, 8])
        self.gives([1, 3, 4, 8], summed, V, [1, 2, 3, 2])
        self.gives([1, 2, 3, 2], unsummed, V, (1, 3, 4, 8))

    def test_edges(self):
        self.gives(1, signed, NONE, (), ())
        self.gives([7], summed, NONE, [7])
        self.gives([-7], unsummed, ONE, [-7])
        self.gives(1, signed, put_in(6), (), tuple(range(6)))
        self.gives(-1, signed, put_in(5), (), tuple(range(5)))

    def test_by_rows_of_faces(self):
        for book in SOME:
            faces = all_faces(book)
            for f in faces:
                for g in faces:
                    even, odd = rows_between(faces, f, g)
                    self.gives(even - odd, signed, book, f, g)
                    if f != g:
                        wanted = -sum(signed(book, f, h) for h in faces if h != g and within(h, g) and within(f, h))
                        self.assertEqual(signed(book, f, g), wanted if within(f, g) else 0)

    def test_sums_there_and_back(self):
        chance = random.Random(4)
        for book in SOME + [put_in(6)]:
            faces = all_faces(book)
            numbers = [chance.choice([0, 1, -1, chance.randrange(-10 ** 30, 10 ** 30)]) for _ in faces]
            sums = [sum(b for f, b in zip(faces, numbers) if within(f, g)) for g in faces]
            self.gives(sums, summed, book, numbers)
            self.gives(numbers, unsummed, book, sums)
            if len(faces) < 20:
                back = [sum(signed(book, h, g) * a for h, a in zip(faces, sums) if within(h, g)) for g in faces]
                self.assertEqual(back, numbers)

    def test_no_faces(self):
        for book in (V, NONE, EXCHANGE):
            whole = all_faces(book)[-1]
            for value in no_faces(book):
                self.refused(NoFace, {"lot": value}, signed, book, value, whole)
                self.refused(NoFace, {"lot": value}, signed, book, whole, value)
                self.refused(NoFace, {"lot": value}, signed, book, value, (2, 1))
                self.refused(NoFace, {"lot": value}, mark_row, book, value)


class Floors(Case):
    def test_examples(self):
        self.gives([((0, 1, 2, 3),), ((1, 1, 3, 3),), ((2, 3, 2, 3),), ((3, 3, 3, 3),)], floors, V)
        self.gives([((0, 1, 2),)], floors, NONE)
        self.gives([((0,),)], floors, ONE)
        self.gives([((0, 1),), ((0, 0), (1, 1))], floors, Q)
        self.gives([((0, 1), (1, 0))], floors, EXCHANGE)

    def test_by_least_faces(self):
        for book in SOME:
            faces = all_faces(book)
            members = heap(book)
            wanted = [tuple(m for m in members if face_of_member(book, m) == f) for f in faces]
            self.gives(wanted, floors, book)
            self.assertTrue(all(wanted))

    def test_they_are_the_least_parting_of_its_sort(self):
        for book in FEW:
            members = heap(book)
            place = {m: m for m in members}

            def top(m):
                while place[m] != m:
                    m = place[m]
                return m

            def bind(a, b):
                place[top(a)] = top(b)

            for a in members:
                bind(a, then(a, a))
                for b in members:
                    bind(then(a, b), then(b, a))
            before = None
            while before != [top(m) for m in members]:
                before = [top(m) for m in members]
                for a in members:
                    for c in members:
                        bind(then(a, c), then(top(a), c))
                        bind(then(c, a), then(c, top(a)))
            wanted = {frozenset(m for m in members if top(m) == top(a)) for a in members}
            self.assertEqual({frozenset(told) for told in floors(book)}, wanted)

    def test_400_members(self):
        book = sums_of_400()
        told = floors(book)
        self.assertEqual(sorted(m for row in told for m in row), sorted(heap(book)))
        self.assertEqual(len(told), len(all_faces(book)))
        self.gives([heap(heap_of_400())], floors, heap_of_400())


class Marks(Case):
    def test_examples(self):
        self.gives((1, 1, 0, 0), mark_row, V, (0,))
        self.gives(("step", 1, 1), judge_marks, V, (1, 1, 1, 0))
        self.gives((1,), mark_row, NONE, ())
        self.gives(None, judge_marks, NONE, (1,))
        self.gives(("idle",), judge_marks, NONE, (0,))

    def test_rows_of_faces(self):
        for book in SOME + [heap_of_400()]:
            members = heap(book)
            for f in all_faces(book):
                inside = set(members_of(book, f))
                row = self.gives(tuple(int(m in inside) for m in members), mark_row, book, f)
                self.gives(None, judge_marks, book, row)

    def test_all_rows(self):
        for book in FEW:
            members = heap(book)
            right = right_steps(book)
            rows = {mark_row(book, f) for f in all_faces(book)}
            for row in rows_of((0, 1), repeat=len(members)):
                fault = None
                steps = [(k, d) for k in range(len(members)) for d in range(len(book[1]))
                         if row[right[k][d]] != row[k] * row[right[0][d]]]
                if steps:
                    fault = ("step",) + steps[0]
                if row[0] != 1:
                    fault = ("idle",)
                self.assertEqual(judge_marks(book, row), fault)
                self.assertIs(fault is None, row in rows)

    def test_form(self):
        for book in (V, TWINS, NONE):
            for value in ANYTHING + [(1, 1, 1), (1, 1, 1, True), (True, 1, 1, 1), [1, 1, 1, 1], (1, 1, 1, 2),
                                     (1, 1, 1, -1), (1, 1, 1, 1, 1), (1, 1, 1, "1"), (0, 0, 0, 2)]:
                marks = isinstance(value, tuple) and len(value) == len(heap(book)) and all(
                    mark in (0, 1) and not isinstance(mark, bool) for mark in value)
                if not marks:
                    self.gives(("form",), judge_marks, book, value)
        self.gives(("idle",), judge_marks, V, (0, 1, 1, 1))
        self.gives(("step", 1, 0), judge_marks, (3, ((0, 0, 1),)), (1, 1, 0))


if __name__ == "__main__":
    unittest.main()
