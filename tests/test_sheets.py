"""sheets.py: S2.1."""

import unittest
from math import gcd

from drawndeeds.errors import BadTree, UnknownName
from drawndeeds.sheets import (
    check_sheet, is_fraction, letter_of, part_of, parts_of, with_part, without_part)
from tests.sheetsupport import SHEET, some_sheet
from tests.support import ANYTHING, Case

ONE = (2, ((1, 0), (0, 0)))
EMPTY = ((1, ()), (), ())


def replaced(value, path, part):
    """The value with another part where the path leads."""
    if not path:
        return part
    k = path[0]
    return value[:k] + (replaced(value[k], path[1:], part),) + value[k + 1:]


def paths_in(value, path=()):
    yield path, value
    if isinstance(value, tuple):
        for k, part in enumerate(value):
            yield from paths_in(part, path + (k,))


class Sheets(Case):
    def bad(self, path, value):
        self.refused(BadTree, {"path": path}, check_sheet, value)

    def bad_part(self, path, part, book=ONE):
        names = ("s", "z", "y", "x")[:len(book[1])]
        self.bad((2, 0) + path, (book, names, (part,)))
        self.bad((2, 1) + path, (book, names, (("field", "ahead", ()), part, None)))
        self.refused(BadTree, {"path": path}, with_part, (book, names, ()), part)

    def good_part(self, part, book=ONE):
        names = ("s", "z", "y", "x")[:len(book[1])]
        self.gives(None, check_sheet, (book, names, (part,)))
        self.gives((book, names, (part,)), with_part, (book, names, ()), part)

    def test_right_sheets(self):
        self.gives(None, check_sheet, SHEET)
        self.gives(None, check_sheet, EMPTY)
        self.gives(None, check_sheet, ((10 ** 299, ()), (), (("field", "f", (10 ** 299 - 1,)),)))
        self.gives(None, check_sheet, ((24, (tuple(range(24)),) * 32), tuple("a" + str(k) for k in range(32)), ()))
        for seed in range(200):
            self.gives(None, check_sheet, some_sheet(seed))

    def test_wrong_parts_anywhere(self):
        for sheet in [SHEET] + [some_sheet(seed) for seed in range(30)]:
            for path, part in list(paths_in(sheet)):
                for wrong in (None, {}, -1.5, [1, 2], "A"):
                    self.bad(path, replaced(sheet, path, wrong))
                if isinstance(part, tuple):
                    self.bad(path, replaced(sheet, path, list(part)))
                elif isinstance(part, str):
                    self.bad(path, replaced(sheet, path, [part]))
                    self.bad(path, replaced(sheet, path, part + "-"))
                else:
                    self.bad(path, replaced(sheet, path, True))
                    self.bad(path, replaced(sheet, path, str(part)))

    def test_first_of_several(self):
        paths = [path for path, _ in paths_in(SHEET)]
        for k, path in enumerate(paths):
            for later in paths[k + 1:]:
                if later[:len(path)] != path:
                    self.bad(path, replaced(replaced(SHEET, later, None), path, None))

    def test_numbers_of_members(self):
        for value in ((), (ONE,), (ONE, ("s", "z")), (ONE, ("s", "z"), (), ())):
            self.bad((), value)
        self.bad((0,), ((2,), ("s", "z"), ()))
        self.bad((0, 0), ((0, ()), (), ()))
        self.bad((0, 1, 0), ((2, ((1,),)), ("s",), ()))
        self.bad((1,), (ONE, ("s",), ()))
        self.bad((1,), (ONE, ("s", "z", "y"), ()))
        self.bad((1,), ((1, ()), ("s",), ()))
        self.bad((2, 0), (ONE, ("s", "z"), ((),)))
        self.bad((2, 0), (ONE, ("s", "z"), (("word", "w"),)))
        self.bad((2, 0), (ONE, ("s", "z"), (("word", "w", (), ()),)))

    def test_names(self):
        self.bad((1, 1), (ONE, ("s", "s"), ()))
        self.bad((1, 0), (ONE, ("abcdefghijklm", "s"), ()))
        self.gives(None, check_sheet, (ONE, ("abcdefghijkl", "s"), ()))
        for name in ("", "0a", "S", "a b", "a_", "a\n", None, 1, True, ("a",), ["a"], {}):
            self.bad((1, 1), (ONE, ("s", name), ()))
            self.bad((2, 0, 1), (ONE, ("s", "z"), (("word", name, ()),)))
        self.bad((2, 1, 1), (ONE, ("s", "z"), (("word", "w", ()), ("lot", "w", ()))))
        self.bad((2, 2, 1), (ONE, ("s", "z"), (("word", "w", ()), ("lot", "l", ()), ("lot", "w", None))))
        self.gives(None, check_sheet, (ONE, ("s", "z"), (("word", "s", ()), ("lot", "z", ()))))

    def test_sorts(self):
        for sort in ANYTHING + ["words", "Word", "book", "face", "", ("word",)]:
            self.bad_part((0,), (sort, "w", ()))
            self.bad_part((0,), (sort, None, None))

    def test_words_and_leads(self):
        self.good_part(("word", "w", (0, 1, 1)))
        self.good_part(("word", "w", (1,) * 10000))
        self.bad_part((2, 2), ("word", "w", (0, 1, 2)))
        self.bad_part((2,), ("word", "w", [0]))
        self.good_part(("lead", "w", (1, 1)))
        for value in ((), (0,), (0, 0, 0), [0, 0], None):
            self.bad_part((2,), ("lead", "w", value))
        self.bad_part((2, 1), ("lead", "w", (0, 2)))

    def test_lots_and_fields(self):
        book = (4, ((0, 0, 0, 0),) * 2)
        for value in ((), (0,), (0, 1)):
            self.good_part(("lot", "l", value), book)
        self.bad_part((2, 1), ("lot", "l", (0, 2)), book)
        self.bad_part((2, 1), ("lot", "l", (1, 0)), book)
        self.bad_part((2, 1), ("lot", "l", (1, 1)), book)
        for value in ((), (3,), (0, 2, 3)):
            self.good_part(("field", "f", value), book)
        self.bad_part((2, 1), ("field", "f", (0, 4)), book)
        self.bad_part((2, 2), ("field", "f", (0, 2, 2)), book)
        self.bad_part((2, 1), ("field", "f", (2, 0, 1)), book)

    def test_partings(self):
        book = (4, ())
        for value in (((0, 1, 2, 3),), ((0,), (1,), (2,), (3,)), ((0, 3), (1, 2)), ((0, 1), (2, 3))):
            self.good_part(("parting", "p", value), book)
        self.bad_part((2,), ("parting", "p", ()), book)
        self.bad_part((2,), ("parting", "p", ((0, 1), (2,))), book)
        self.bad_part((2, 1), ("parting", "p", ((0, 1), (), (2, 3))), book)
        self.bad_part((2, 2), ("parting", "p", ((0, 1), (2, 3), ())), book)
        self.bad_part((2, 1, 0), ("parting", "p", ((1, 2), (0, 3))), book)
        self.bad_part((2, 0, 1), ("parting", "p", ((0, 0), (1, 2, 3))), book)
        self.bad_part((2, 0, 2), ("parting", "p", ((0, 2, 1), (3,))), book)
        self.bad_part((2, 1, 1), ("parting", "p", ((0, 2), (1, 2), (3,))), book)
        self.bad_part((2, 1, 0), ("parting", "p", ((0, 2), (2, 3), (1,))), book)
        self.bad_part((2, 1, 0), ("parting", "p", ((0, 2), (0, 3), (1,))), book)
        self.bad_part((2, 2, 0), ("parting", "p", ((0, 1), (3,), (2,))), book)
        self.bad_part((2, 1, 1), ("parting", "p", ((0, 1), (2, 4))), book)
        self.bad_part((2, 0, 0), ("parting", "p", ((True, 1), (0, 2, 3))), book)
        self.bad_part((2,), ("parting", "p", ((0,),)), (10 ** 299, ()))

    def test_weights(self):
        for value in ((0, 0), (-1, 10 ** 40), (10 ** 299, -(10 ** 299))):
            self.good_part(("weights", "x", value))
        self.good_part(("weights", "x", ()), (1, ()))
        for value in ((), (1,), (1, 2, 3), [1, 2]):
            self.bad_part((2,), ("weights", "x", value))
        for wrong in (True, None, "1", (1, 2), (1,)):
            self.bad_part((2, 1), ("weights", "x", (0, wrong)))

    def test_chances(self):
        third = ((1, 3), (2, 3))
        self.good_part(("chances", "c", third))
        self.good_part(("chances", "c", ((10 ** 40 - 1, 10 ** 40), (1, 10 ** 40))))
        self.good_part(("chances", "c", ((1, 1),)), (1, ((0,),)))
        self.bad_part((2,), ("chances", "c", ()), (1, ()))
        for value in ((), ((1, 1),), third + ((1, 3),), list(third), ((1, 3), (1, 3)), ((1, 2), (2, 3)),
                      ((1, 1), (1, 1))):
            self.bad_part((2,), ("chances", "c", value))
        for wrong in (None, 1, (), (1,), (2, 3, 1), [2, 3], (2, 4), (0, 1), (0, 2), (-2, 3), (-2, 4), (3, 3)):
            self.bad_part((2, 1), ("chances", "c", ((1, 3), wrong)))
            self.bad_part((2, 0), ("chances", "c", (wrong, (True, 3))))
        for wrong in (True, None, "2", (2,)):
            self.bad_part((2, 1, 0), ("chances", "c", ((1, 3), (wrong, 0))))
        for wrong in (0, -3, True, None, "3"):
            self.bad_part((2, 1, 1), ("chances", "c", ((1, 3), (2, wrong))))
            self.bad_part((2, 0, 1), ("chances", "c", ((0, wrong), (2, 4))))

    def test_a_great_many_chances(self):
        many = 600
        book = (1, ((0,),) * many)
        names = tuple("a" + str(k) for k in range(many))
        chances = ((1, 10 ** 298),) * many
        self.bad((2, 0, 2), (book, names, (("chances", "c", chances),)))
        self.gives(None, check_sheet, (book, names, (("chances", "c", ((1, many),) * many),)))


class Fractions(Case):
    def test_all_small_ones(self):
        for p in range(-7, 8):
            for q in range(-3, 8):
                self.gives(q >= 1 and gcd(p, q) == 1, is_fraction, (p, q))

    def test_others(self):
        self.gives(True, is_fraction, (0, 1))
        self.gives(True, is_fraction, (10 ** 299 + 1, 10 ** 299))
        self.gives(False, is_fraction, (10 ** 299, 10 ** 298))
        for value in ([1, 2], (1,), (1, 2, 3), (True, 2), (1, True), (1, None), ("1", 2), None, 1, "1/2", {}):
            self.gives(False, is_fraction, value)


class Parts(Case):
    def test_letters_and_parts(self):
        self.gives(0, letter_of, SHEET, "s")
        self.gives(2, letter_of, SHEET, "deed")
        self.gives(("lead", "s", (2, 1, 0)), part_of, SHEET, "s")
        self.gives(("parting", "p", ((0, 2), (1,))), part_of, SHEET, "p")
        for name in ANYTHING + ["w", "S", "ss", ("s",), ["s"]]:
            if name != "deed":
                self.refused(UnknownName, {"name": name}, letter_of, SHEET, name)
        for name in ANYTHING + ["z", "deed", "W", ("w",), ["w"]]:
            if name != "sheet":
                self.refused(UnknownName, {"name": name}, part_of, SHEET, name)
                self.refused(UnknownName, {"name": name}, without_part, SHEET, name)
        self.refused(UnknownName, {"name": "a"}, letter_of, EMPTY, "a")
        self.refused(UnknownName, {"name": "a"}, part_of, EMPTY, "a")

    def test_parts_of_a_sort(self):
        self.gives([("w", (0, 0, 1, 0)), ("none", ()), ("places", (2,) * 40)], parts_of, SHEET, "word")
        self.gives([("l", (0, 2)), ("sheet", ())], parts_of, SHEET, "lot")
        self.gives([("c", ((1, 3), (1, 2), (1, 6)))], parts_of, SHEET, "chances")
        for sort in ANYTHING + ["words", ("word",), ["word"]]:
            self.gives([], parts_of, SHEET, sort)
        self.gives([], parts_of, EMPTY, "word")

    def test_with_part(self):
        book, names, parts = SHEET
        for k, part in enumerate(parts):
            new = ("field", part[1], (1,))
            self.gives((book, names, parts[:k] + (new,) + parts[k + 1:]), with_part, SHEET, new)
            self.gives(SHEET, with_part, SHEET, part)
        new = ("word", "z", (1, 2))
        self.gives((book, names, parts + (new,)), with_part, SHEET, new)
        self.gives((book, names, (new,)), with_part, (book, names, ()), new)

    def test_with_a_wrong_part(self):
        for part in [value for value in ANYTHING if not isinstance(value, tuple) or len(value) != 3]:
            self.refused(BadTree, {"path": ()}, with_part, SHEET, part)
        self.refused(BadTree, {"path": ()}, with_part, SHEET, ("word", "w"))
        self.refused(BadTree, {"path": ()}, with_part, SHEET, ["word", "w", ()])
        self.refused(BadTree, {"path": (0,)}, with_part, SHEET, ("words", "w", ()))
        self.refused(BadTree, {"path": (1,)}, with_part, SHEET, ("word", "W", ()))
        self.refused(BadTree, {"path": (2, 1)}, with_part, SHEET, ("word", "w", (0, 3)))
        self.refused(BadTree, {"path": (2, 1, 0)}, with_part, SHEET, ("parting", "p", ((0, 2), (2, 1))))

    def test_without_part(self):
        book, names, parts = SHEET
        for k, part in enumerate(parts):
            self.gives((book, names, parts[:k] + parts[k + 1:]), without_part, SHEET, part[1])


if __name__ == "__main__":
    unittest.main()
