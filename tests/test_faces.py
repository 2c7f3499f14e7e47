"""faces.py: S4.1 to S4.3, and S4.5."""

import unittest

from drawndeeds.books import done, is_settled, product
from drawndeeds.errors import NoFace
from drawndeeds.faces import (
    all_faces, face_of_member, face_of_word, is_face, join, judge_out, key, least_face, meet, members_of, out_paper)
from drawndeeds.heaps import heap, least_words
from drawndeeds.leastlots import least_lot
from drawndeeds.lots import cut
from tests.bookssupport import (
    EXCHANGE, FEW, NONE, ONE, OF_SUMS, Q, SOME, TURNS, TWINS, V, lots_of, put_in, seventeen, slow_faces, some_words,
    sums_of_400, then)
from tests.support import ANYTHING, Case, heap_of_400

NO_FACES = ANYTHING + [(1, 0), (0, 0), (3,), (-1,), [0, 1], (0, 1, True), ("0",), ((0,),), {0: 1}, (0, 1, 2, 3)]


def no_faces(book):
    """Values that are not the lot of a face: such as equal one only by True, and lots that are none."""
    faces = all_faces(book)
    return [value for value in NO_FACES + lots_of(len(book[1]))
            if not isinstance(value, tuple) or value not in faces or any(isinstance(k, bool) for k in value)]


class Faces(Case):
    def test_examples(self):
        self.gives([(), (0,), (1,), (0, 1, 2)], all_faces, V)
        self.gives((0, 1, 2), least_face, V, (2,))
        self.gives((0, 1, 2), join, V, (0,), (1,))
        self.gives((), meet, V, (0,), (1,))
        self.gives(((0, 1, 2, 3), (1, 1, 3, 3)), members_of, V, (0,))
        self.gives(heap(V), members_of, V, (0, 1, 2))
        self.gives((0, 1, 2, 3), key, V, ())
        self.gives((3, 3, 3, 3), key, V, (0, 1, 2))
        self.gives([(2,), (0, 1, 2)], all_faces, Q)

    def test_edges(self):
        self.gives([()], all_faces, NONE)
        self.gives((), least_face, NONE, ())
        self.gives((), face_of_word, NONE, ())
        self.gives((), face_of_member, NONE, (0, 1, 2))
        self.gives(((0, 1, 2),), members_of, NONE, ())
        self.gives((0, 1, 2), key, NONE, ())
        self.gives([(0, 1)], all_faces, ONE)
        self.gives((0,), key, ONE, (0, 1))
        self.gives([(0, 1)], all_faces, TURNS)
        self.gives((0, 1), least_face, TURNS, ())
        self.gives([(0,)], all_faces, EXCHANGE)
        self.gives([(), (1,), (0, 2), (0, 1, 2)], all_faces, TWINS)
        for g in range(7):
            self.gives(lots_of(g), all_faces, put_in(g))

    def test_by_all_sets_of_members(self):
        for book in FEW:
            found = slow_faces(book)
            self.gives(sorted(sorted(found), key=len), all_faces, book)
            for lot in lots_of(len(book[1])):
                self.gives(lot in found, is_face, book, lot)
            for f, face in found.items():
                self.gives(tuple(m for m in heap(book) if m in face), members_of, book, f)

    def test_a_face_is_all_products_of_its_letters(self):
        for book in SOME:
            faces = all_faces(book)
            for f in faces:
                members = members_of(book, f)
                self.assertEqual(set(members), set(heap(cut(book, f))))
                self.assertEqual(f, tuple(k for k, deed in enumerate(book[1]) if deed in members))
                within = [g for g in faces if set(g) <= set(f)]
                self.assertEqual([tuple(f[k] for k in g) for g in all_faces(cut(book, f))], within)
            self.assertEqual(faces[0], tuple(k for k, d in enumerate(book[1]) if len(set(d)) == book[0]))
            self.assertEqual(faces[-1], tuple(range(len(book[1]))))

    def test_a_member_of_the_least_lot_tells(self):
        for book in FEW:
            members = heap(book)
            for lot in lots_of(len(book[1])):
                for m in least_lot(cut(book, lot)):
                    around = {product(product(a, d), b) == m and k for k, d in enumerate(book[1])
                              for a in members for b in members} - {False}
                    wanted = all(k in lot for k, d in enumerate(book[1]) if any(
                        product(product(a, d), b) == m for a in members for b in members))
                    self.assertIs(is_face(book, lot), wanted, around)

    def test_anything(self):
        for book in (V, NONE, ONE, EXCHANGE, put_in(2)):
            for value in no_faces(book):
                self.gives(False, is_face, book, value)

    def test_least_faces(self):
        for book in SOME:
            faces = all_faces(book)
            for lot in lots_of(len(book[1])):
                wanted = min([f for f in faces if set(lot) <= set(f)], key=len)
                self.gives(wanted, least_face, book, lot)
                self.assertTrue(all(set(wanted) <= set(f) for f in faces if set(lot) <= set(f)))

    def test_faces_of_words_and_members(self):
        for book in SOME:
            faces = [(f, set(members_of(book, f))) for f in all_faces(book)]
            for word in some_words(book):
                m = done(book, word)
                f = self.gives(face_of_member(book, m), face_of_word, book, word)
                self.assertEqual(f, least_face(book, tuple(sorted(set(word)))))
                for g, members in faces:
                    self.assertIs(m in members, set(f) <= set(g))

    def test_least_face_of_a_product(self):
        for book in FEW:
            face = {m: face_of_member(book, m) for m in heap(book)}
            for a in face:
                for b in face:
                    both = tuple(sorted(set(face[a] + face[b])))
                    self.assertEqual(face[then(a, b)], least_face(book, both))

    def test_greatest(self):
        self.gives((0, 1, 2, 3), face_of_word, OF_SUMS, (0, 1, 2, 3) * 500)
        self.gives([(0, 1, 2, 3)], all_faces, heap_of_400())
        book = sums_of_400()
        faces = all_faces(book)
        self.assertEqual(len(faces), len(all_faces((5, tuple(d[:5] for d in book[1][:3])))) ** 2)
        members = heap(book)
        for m in members[::40]:
            for g in faces:
                self.assertIs(m in members_of(book, g), set(face_of_member(book, m)) <= set(g))
        self.assertIn((), all_faces(seventeen()))


class Meets(Case):
    def test_meets_and_joins(self):
        for book in SOME:
            faces = all_faces(book)
            for f in faces:
                for g in faces:
                    under = [h for h in faces if set(h) <= set(f) & set(g)]
                    above = [h for h in faces if set(f) | set(g) <= set(h)]
                    self.gives(max(under, key=len), meet, book, f, g)
                    self.gives(min(above, key=len), join, book, f, g)

    def test_no_faces(self):
        for book in (V, NONE, ONE, EXCHANGE):
            whole = all_faces(book)[-1]
            for value in no_faces(book):
                self.refused(NoFace, {"lot": value}, members_of, book, value)
                self.refused(NoFace, {"lot": value}, key, book, value)
                for call in (meet, join):
                    self.refused(NoFace, {"lot": value}, call, book, value, whole)
                    self.refused(NoFace, {"lot": value}, call, book, whole, value)
                    self.refused(NoFace, {"lot": value}, call, book, value, (2, 1))
        self.refused(NoFace, {"lot": (2,)}, meet, V, (2,), (0, 1))
        value = [0]
        with self.assertRaises(NoFace) as caught:
            key(V, value)
        self.assertIs(caught.exception.lot, value)


class Outs(Case):
    def test_papers(self):
        for book in SOME:
            for lot in lots_of(len(book[1])):
                paper = out_paper(book, lot)
                self.assertIs(paper is None, is_face(book, lot))
                if paper is not None:
                    self.gives(None, judge_out, book, lot, paper)
                    self.gives(paper, out_paper, book, lot)

    def test_there_is_one_exactly_if_the_lot_is_no_face(self):
        for book in FEW:
            for lot in lots_of(len(book[1])):
                # What words of the lot do, and what words with another letter do, by steps from the idle deed.
                row = [(tuple(range(book[0])), False)]
                inside = {row[0][0]}
                seen = set(row)
                for deed, out in row:
                    for k, other in enumerate(book[1]):
                        now = (then(deed, other), out or k not in lot)
                        if now not in seen:
                            seen.add(now)
                            row.append(now)
                            if not now[1]:
                                inside.add(now[0])
                self.assertIs(is_face(book, lot), not any((deed, True) in seen for deed in inside))

    def test_examples(self):
        for paper in (((2,), (0, 2)), ((2, 2), (0, 1)), ((2,), (2, 0, 2, 1) * 500)):
            self.gives(None, judge_out, V, (2,), paper)
        self.gives(None, judge_out, V, (0, 1), ((0, 1), (2,)))
        self.gives(None, judge_out, EXCHANGE, (), ((), (0, 0)))
        self.assertIsNone(judge_out(OF_SUMS, (1, 2), out_paper(OF_SUMS, (1, 2))))

    def test_faults(self):
        for value in ANYTHING + [((0,), [2]), ((0,), (3,)), ((0,), (True,)), ((0,),), ((0,), (2,), ()), [(0,), (2,)],
                                 ((-1,), ()), (None, (2,)), ("", ())]:
            if value != ((0, 1), ()):
                self.gives(("form",), judge_out, V, (0, 1), value)
        self.gives(("within",), judge_out, V, (0, 1), ((0, 2), (2,)))
        self.gives(("within",), judge_out, V, (), ((0,), (0,)))
        self.gives(("within",), judge_out, V, (0, 1), ((2,), (0,)))
        self.gives(("out",), judge_out, V, (0, 1), ((0, 1), (1, 0)))
        self.gives(("out",), judge_out, V, (0, 1), ((0, 1), ()))
        self.gives(("out",), judge_out, V, (0, 1), ((), (1,)))
        self.gives(("same",), judge_out, V, (0, 1), ((0,), (2,)))
        self.gives(("same",), judge_out, V, (2,), ((), (0,)))
        self.gives(("form",), judge_out, NONE, (), ((0,), ()))
        self.gives(("out",), judge_out, NONE, (), ((), ()))

    def test_a_long_paper(self):
        book = heap_of_400()
        paper = out_paper(book, (0, 1))
        self.gives(None, judge_out, book, (0, 1), paper)


class Keys(Case):
    def test_by_the_document(self):
        for book in SOME:
            members = heap(book)
            for f in all_faces(book):
                least = least_lot(cut(book, f))
                wanted = [m for m in members if m in least and is_settled(m)][0]
                self.gives(wanted, key, book, f)

    def test_what_holds(self):
        for book in FEW:
            members = heap(book)
            for f in all_faces(book):
                k = key(book, f)
                self.assertEqual(face_of_member(book, k), f)
                for g in all_faces(book):
                    self.assertIs(k in members_of(book, g), set(f) <= set(g))
                for m in members_of(book, f):
                    self.assertTrue(any(then(then(a, m), b) == k for a in members for b in members))

    def test_least_words_of_faces_are_those_of_the_book(self):
        for book in SOME:
            words = dict(zip(heap(book), least_words(book)))
            for f in all_faces(book):
                self.assertEqual([words[m] for m in members_of(book, f)],
                                 [tuple(f[k] for k in word) for word in least_words(cut(book, f))])


if __name__ == "__main__":
    unittest.main()
