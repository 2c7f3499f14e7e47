"""sheettexts.py: S2.3, S2.4 and S2.5."""

import random
import unittest

from drawndeeds.errors import BadText, BadTree, DeedError, TooMany, UnknownName
from drawndeeds.sheets import check_sheet
from drawndeeds.sheettexts import read_sheet, read_word, sheet_text, word_text
from tests.sheetsupport import SHEET, short_texts, slow_lexemes, slow_wrong_place, some_sheet, wheel_text
from tests.support import Case

EXAMPLE = """sheet {
places 2;
deed s 1 0;
deed z 0 0;
word w s ^ 2 z s;
parting p 0, 1;
chances c 1/3 2/3;
}
"""
TOLD = ((2, ((1, 0), (0, 0))), ("s", "z"), (
    ("word", "w", (0, 0, 1, 0)), ("parting", "p", ((0,), (1,))), ("chances", "c", ((1, 3), (2, 3)))))
NAMES = ("s", "z")


def sheet_with(part, deeds="deed s 1 0;deed z 0 0;"):
    return "sheet{places 2;" + deeds + part + "}"


class Examples(Case):
    def test_document(self):
        self.gives(TOLD, read_sheet, EXAMPLE)
        self.gives(EXAMPLE, sheet_text, TOLD)
        self.gives((0, 1, 0, 1), read_word, NAMES, "(s z) ^ 2 s ^ 0")
        self.gives((0, 1, 0, 1), read_word, NAMES, "(s z)^2 s^0")
        self.gives("s ^ 2 z s", word_text, NAMES, (0, 0, 1, 0))
        self.gives("", word_text, NAMES, ())

    def test_interface(self):
        self.gives(((1, ((0,),)), ("a",), (("lot", "l", (0,)),)), read_sheet, "sheet{places 1;deed a 0;lot l a;}")
        self.refused(UnknownName, {"name": "t"}, read_sheet, "sheet { places 2; deed s 1 0; word w t; }")
        self.refused(TooMany, {}, read_sheet, "sheet { places 2; deed s 1 0; word w (s ^ 200) ^ 200; }")
        self.refused(BadTree, {"path": (0, 1, 0)}, read_sheet, "sheet { places 2; deed s 1; }")
        self.refused(BadText, {"place": 27}, read_sheet, "sheet { places 2; deed s 1 -0; }")


class WrongPlaces(Case):
    def bad(self, place, text):
        self.refused(BadText, {"place": place}, read_sheet, text)

    def bad_word(self, place, text, names=NAMES):
        self.refused(BadText, {"place": place}, read_word, names, text)

    def same_place(self, form, text):
        """The program and the slow reader find the same first wrong place."""
        wanted = slow_wrong_place(form, text)
        found = None
        try:
            if form == "SHEET":
                read_sheet(text)
            else:
                read_word(NAMES, text)
        except BadText as error:
            found = error.place
        except DeedError:
            found = None
        self.assertEqual(found, wanted, repr(text))

    def test_ends_too_early(self):
        text = EXAMPLE.rstrip()
        for end in range(len(text)):
            self.same_place("SHEET", text[:end])
            self.same_place("SHEET", text[:end] + " \n ")
        self.bad(0, "")
        self.bad(3, " \n ")
        self.bad(len(text) - 1, text[:-1])
        self.bad(len(text) + 2, text[:-1] + " \n ")
        self.bad_word(3, "(s ")
        self.bad_word(4, "s ^ ")
        self.bad_word(2, "((")

    def test_behind_the_end(self):
        self.bad(len(EXAMPLE), EXAMPLE + "}")
        self.bad(len(EXAMPLE) + 1, EXAMPLE + " sheet { places 1; }")
        self.gives(TOLD, read_sheet, EXAMPLE + " \n")
        self.bad(len(EXAMPLE), EXAMPLE + "\t")

    def test_deeds_stand_ahead_of_parts(self):
        self.bad(len("sheet{places 2;word w;"), "sheet{places 2;word w;deed s 1 0;}")
        self.bad(len("sheet{places 2;"), "sheet{places 2;part s 1 0;}")
        self.bad(len("sheet{places 2;"), "sheet{places 2;;}")

    def test_parts(self):
        start = "sheet{places 2;deed s 1 0;"
        for part, place in (
                ("word w 1;", 7), ("word ;", 5), ("word 1;", 5), ("word w s ^;", 10), ("word w s ^ s;", 11),
                ("word w s ^ 2 ^ 2;", 13), ("word w ^ 2;", 7), ("word w );", 7), ("word w (s;", 9),
                ("word w (s));", 10), ("word w () ^ 0 0;", 14), ("lead l s;", 7), ("lead l -1;", 7),
                ("lead l 0, 1;", 8), ("lot l s ^ 2;", 8), ("lot l (s);", 6), ("lot l 0;", 6), ("field f s;", 8),
                ("field f 0, 1;", 9), ("parting p ,;", 10), ("parting p 0,;", 12), ("parting p 0,,1;", 12),
                ("parting p 0, s;", 13), ("parting p -0;", 10), ("weights x 1/2;", 11), ("weights x -;", 11),
                ("weights x --1;", 11), ("weights x s;", 10), ("weights x 1, 2;", 11), ("chances c 1/;", 12),
                ("chances c /2;", 10), ("chances c 1/2/3;", 13), ("chances c 1/-2;", 12), ("chances c -/2;", 11),
                ("chances c - s;", 12), ("chances c 1 s;", 12), ("face f s;", 0), ("deed t 0 0 s;", 11)):
            self.bad(len(start) + place, start + part + "}")
            self.same_place("SHEET", start + part + "}")

    def test_names_that_stand_in_forms(self):
        text = "sheet { places 1; deed deed 0; deed places 0; word word deed places ^ 2; lot sheet; lead lot 0; }"
        told = ((1, ((0,), (0,))), ("deed", "places"), (("word", "word", (0, 1, 1)), ("lot", "sheet", ()),
                                                         ("lead", "lot", (0,))))
        self.gives(told, read_sheet, text)
        self.bad(0, "sheets { places 1; }")
        self.bad(8, "sheet { place 1; }")
        self.bad(8, "sheet { places1; }")
        self.bad(6, "sheet ( places 1; )")

    def test_a_wrong_lexeme_ahead_of_what_is_none(self):
        self.bad(8, "sheet { A places 1; }")
        self.bad(8, "sheet { 1 A")
        self.bad(10, "sheet {  \nA")
        self.bad(15, "sheet{places 1;" + "a" * 13 + " 0;}")
        self.bad(20, "sheet{places 1;deed " + "a" * 13 + " 0;}")
        self.bad(14, "sheet{places 0" + "1;}")
        self.bad_word(1, "s\tz")
        self.bad_word(0, ") A")

    def test_long_numerals_at_the_wrong_place(self):
        for many in (41, 5000, 50000):
            numeral = "9" * many
            self.bad(0, numeral)
            self.bad(15, "sheet{places 1;" + numeral)
            self.bad(len("sheet{places 1;word w; word  "), "sheet{places 1;word w; word  " + numeral)
            self.bad(15, "sheet{places 1 " + numeral + ";}")
            self.bad(22, "sheet{places 1;word w a" + numeral + ";}")
            self.bad_word(2, "s " + numeral)
            self.bad_word(6, "(s)^2 " + numeral + ")")

    def test_all_short_words(self):
        for text in short_texts("s(^)1A", 6):
            self.same_place("WORD", text)

    def test_changed_texts(self):
        dice = random.Random(7)
        more = ["sheet", "deed", "word", "parting", "a", "0", "12", "{", "}", "(", ")", ";", ",", "/", "-", "^", "A"]
        for seed in range(250):
            lexemes = [lexeme for lexeme, _ in slow_lexemes(sheet_text(some_sheet(seed)))[0]]
            for _ in range(6):
                at = dice.randrange(len(lexemes))
                change = dice.choice(("less", "more", "other", "twice"))
                new = {"less": [], "more": [dice.choice(more), lexemes[at]], "other": [dice.choice(more)],
                       "twice": [lexemes[at]] * 2}[change]
                self.same_place("SHEET", wheel_text(lexemes[:at] + new + lexemes[at + 1:]))


class Told(Case):
    def test_words(self):
        for text, told in (
                ("", ()), ("s", (0,)), ("z s", (1, 0)), ("s^3", (0, 0, 0)), ("(s z)^2", (0, 1, 0, 1)), ("()", ()),
                ("()^7", ()), ("(s)", (0,)), ("((s^2 z)^2 s)^2", (0, 0, 1, 0, 0, 1, 0) * 2), ("s^0", ()),
                ("(s z^0)^2 z", (0, 0, 1)), ("(s^0)^9 z", (1,)), ("s^1", (0,)), ("(((z)))^2", (1, 1)),
                ("s(z)s", (0, 1, 0)), ("s^2(z)^2s^2", (0, 0, 1, 1, 0, 0))):
            self.gives(told, read_word, NAMES, text)
            self.gives((("word", "w", told),), lambda t: read_sheet(sheet_with("word w " + t + ";"))[2], text)

    def test_names_of_letters(self):
        self.gives((1, 0), read_word, ("b", "a"), "a b")
        self.gives((), read_word, (), "() ^ 3")
        self.gives((31, 0), read_word, tuple("n" + str(k) for k in range(32)), "n31 n0")

    def test_unknown_names(self):
        for text, name in (("t", "t"), ("t^0", "t"), ("(s t)^0", "t"), ("s u t", "u"), ("((u) t)^0 v", "u"),
                           ("s ^ 20000 t", "t"), ("word", "word")):
            self.refused(UnknownName, {"name": name}, read_word, NAMES, text)
            self.refused(UnknownName, {"name": name}, read_sheet, sheet_with("word w " + text + ";"))
        self.refused(UnknownName, {"name": "s"}, read_word, (), "s")
        self.refused(UnknownName, {"name": "t"}, read_sheet, sheet_with("lot l s t u;"))
        self.refused(UnknownName, {"name": "w"}, read_sheet, sheet_with("word w; lot l w;"))

    def test_too_many(self):
        self.gives((0,) * 10000, read_word, NAMES, "s^10000")
        self.gives((0, 1) * 5000, read_word, NAMES, "(s z)^5000")
        self.gives((0,) * 9999 + (1,), read_word, NAMES, "s^9999 z")
        for text in ("s^10001", "s^9999 z s", "(s z)^5000 s", "(s^101)^100", "s^" + "9" * 40, "(s^200)^200",
                     "((s^20000)^1)^1", "s^5000 (z^5000 s)"):
            self.refused(TooMany, {}, read_word, NAMES, text)
            self.refused(TooMany, {}, read_sheet, sheet_with("word w " + text + ";"))

    def test_great_powers_of_little_and_of_nothing(self):
        great = "9" * 40
        self.gives((), read_word, NAMES, "()^" + great)
        self.gives((), read_word, NAMES, "(s^0)^" + great)
        self.gives((), read_word, NAMES, "(()^" + great + ")^" + great)
        self.gives((1,), read_word, NAMES, "(s^" + great + ")^0 z")
        self.gives((1, 1), read_word, NAMES, "((s^20000)^0 z)^2")
        self.gives((1,), read_word, NAMES, "((s^" + great + " z)^" + great + ")^0 z")
        self.gives((0,) * 10000, read_word, NAMES, "(s^20000)^0 s^10000")
        self.refused(TooMany, {}, read_word, NAMES, "(s^0)^" + great + " z^" + great)

    def test_deep_brackets(self):
        self.gives((0,), read_word, NAMES, "(" * 60 + "s" + ")" * 60)
        self.gives((0,) * 2 ** 13, read_word, NAMES, "(" * 13 + "s" + ")^2" * 13)
        self.refused(TooMany, {}, read_word, NAMES, "(" * 60 + "s" + ")^2" * 60)
        self.refused(TooMany, {}, read_word, NAMES, "(" * 60 + "s" + (")^" + "9" * 40) * 60)
        self.gives((), read_word, NAMES, "(" * 60 + "s^10000" + ")^2" * 59 + ")^0")
        self.gives((), read_word, NAMES, "(" * 500 + "s^0" + ")" * 500)

    def test_parts(self):
        for text, part in (
                ("lead l 1 0;", ("lead", "l", (1, 0))), ("lot l s z;", ("lot", "l", (0, 1))),
                ("lot l;", ("lot", "l", ())), ("field f 0 1;", ("field", "f", (0, 1))),
                ("field f;", ("field", "f", ())), ("parting p 0 1;", ("parting", "p", ((0, 1),))),
                ("parting p 0,1;", ("parting", "p", ((0,), (1,)))), ("weights x 3 -2;", ("weights", "x", (3, -2))),
                ("weights x - 0 - 7;", ("weights", "x", (0, -7))), ("weights x 00;", ("weights", "x", (0, 0))),
                ("chances c 1/2 1/2;", ("chances", "c", ((1, 2), (1, 2)))),
                ("chances c 99 / 100 1/100;", ("chances", "c", ((99, 100), (1, 100))))):
            self.gives((TOLD[0], NAMES, (part,)), read_sheet, sheet_with(text))
        self.gives(((1, ((0,),)), ("a",), (("chances", "c", ((1, 1),)),)), read_sheet,
                   "sheet{places 1;deed a 0;chances c 1;}")

    def test_wrong_parts(self):
        for text, path in (
                ("lead l 1;", (2,)), ("lead l 0 2;", (2, 1)), ("lead l 07;", (2, 1)), ("lot l z s;", (2, 1)),
                ("lot l s s;", (2, 1)), ("field f 1 0;", (2, 1)), ("field f 2;", (2, 0)), ("parting p;", (2,)),
                ("parting p 0;", (2,)), ("parting p 1, 0;", (2, 1, 0)), ("weights x;", (2,)), ("weights x 1 2 3;", (2,)),
                ("chances c 2/4 1/2;", (2, 0)), ("chances c 1/3 1/3;", (2,)), ("chances c -1/3 4/3;", (2, 0)),
                ("chances c -0 1;", (2, 0)), ("chances c -0/3 1;", (2, 0)), ("chances c 1/0 1;", (2, 0, 1)),
                ("chances c 1;", (2,)), ("chances c 1 0;", (2, 1)), ("chances c 3/3 1;", (2, 0))):
            self.refused(BadTree, {"path": (2, 0) + path}, read_sheet, sheet_with(text))
        self.refused(BadTree, {"path": (0, 0)}, read_sheet, "sheet{places 0;}")
        self.refused(BadTree, {"path": (0, 1, 1, 0)}, read_sheet, "sheet{places 1;deed s 0;deed s 1;}")
        self.refused(BadTree, {"path": (0, 1, 0)}, read_sheet, "sheet{places 1;deed s;}")
        self.refused(BadTree, {"path": (1, 1)}, read_sheet, "sheet{places 1;deed s 0;deed s 0;}")
        self.refused(BadTree, {"path": (2, 1, 1)}, read_sheet, sheet_with("word w; lot w;"))
        self.refused(BadTree, {"path": (2, 0, 2)}, read_sheet, "sheet{places 1;chances c;}")

    def test_the_sequence_in_which_reading_refuses(self):
        bad_tree = "deed s 1;"
        text = "sheet{places 0;" + bad_tree + "word w s ^ 10001; word w t;"
        self.refused(BadText, {"place": len(text)}, read_sheet, text)
        self.refused(UnknownName, {"name": "t"}, read_sheet, text + "}")
        text = "sheet{places 0;" + bad_tree + "lot l s; lot l s; word w s ^ 10001;}"
        self.refused(TooMany, {}, read_sheet, text)
        self.refused(BadTree, {"path": (0, 0)}, read_sheet, text.replace("10001", "10000"))
        self.refused(BadTree, {"path": (0, 1, 0)}, read_sheet, text.replace("10001", "9").replace("places 0", "places 2"))
        text = sheet_with("lot l u t; word w v;")
        self.refused(UnknownName, {"name": "u"}, read_sheet, text)
        self.refused(UnknownName, {"name": "t"}, read_word, NAMES, "s^20000 t")
        self.refused(BadText, {"place": 10}, read_word, NAMES, "s^20000 t )")
        # Names that stand elsewhere mean no letters, and so refuse nothing.
        self.refused(BadTree, {"path": (2, 0, 2, 1)}, read_sheet, sheet_with("field u 0 9;"))

    def test_equal_names_of_letters(self):
        text = "sheet{places 1;deed s 0;deed s 0;word w s;}"
        self.refused(BadTree, {"path": (1, 1)}, read_sheet, text)
        self.refused(TooMany, {}, read_sheet, text.replace("w s", "w s^10001"))


class Written(Case):
    def test_rows(self):
        rows = ["sheet {", "places 3;", "deed s 1 0 2;", "deed z 0 0 2;", "deed deed 2 2 2;", "word w s ^ 2 z s;",
                "word none;", "lead s 2 1 0;", "lot l s deed;", "lot sheet;", "field f 0 2;", "field field;",
                "parting p 0 2, 1;", "weights x 3 -2 0;", "chances c 1/3 1/2 1/6;", "word places deed ^ 40;", "}"]
        self.gives("".join(row + "\n" for row in rows), sheet_text, SHEET)
        self.gives("sheet {\nplaces 1;\n}\n", sheet_text, ((1, ()), (), ()))
        self.gives("sheet {\nplaces 1;\ndeed a 0;\nchances c 1;\n}\n", sheet_text,
                   ((1, ((0,),)), ("a",), (("chances", "c", ((1, 1),)),)))

    def test_words(self):
        for word, text in (((0,), "s"), ((0, 1), "s z"), ((0, 0), "s ^ 2"), ((1, 0, 0, 0, 1, 1), "z s ^ 3 z ^ 2"),
                           ((1,) * 10000, "z ^ 10000"), ((0, 1, 0, 1), "s z s z")):
            self.gives(text, word_text, NAMES, word)
        self.gives("", word_text, (), ())

    def test_read_back(self):
        seen = {}
        for seed in range(400):
            sheet = some_sheet(seed)
            text = sheet_text(sheet)
            self.assertEqual(read_sheet(text), sheet)
            self.assertIs(seen.setdefault(text, sheet) == sheet, True)
            self.assertEqual(read_sheet(wheel_text([lexeme for lexeme, _ in slow_lexemes(text)[0]])), sheet)
            for sort, _, value in sheet[2]:
                if sort == "word":
                    self.assertEqual(read_word(sheet[1], word_text(sheet[1], value)), value)
        self.assertGreater(len(seen), 300)

    def test_great_texts(self):
        names = tuple("abcdefghij" + str(k) for k in range(10, 42))
        words = tuple(("word", "w" + str(k), tuple((p * k) % 32 for p in range(10000))) for k in range(1, 7))
        sheet = ((24, (tuple(range(24)),) * 32), names, words)
        check_sheet(sheet)
        text = sheet_text(sheet)
        self.assertGreater(len(text), 60000)
        self.gives(sheet, read_sheet, text)

    def test_texts_of_60000_characters(self):
        self.gives((), read_word, NAMES, " \n" * 30000)
        self.gives((0,) * 10000, read_word, NAMES, "s   \n " * 10000)
        self.refused(TooMany, {}, read_word, NAMES, "s " * 30000)
        self.gives((0,) * 5000, read_word, NAMES, "(s^10000)^0 " * 4000 + "s^5000")
        self.gives((), read_word, NAMES, ("(" * 60 + "s^10000" + ")" * 59 + ")^0") * 450)
        self.refused(BadText, {"place": 60000}, read_word, NAMES, "(" * 60000)
        self.refused(BadText, {"place": 59999}, read_word, NAMES, "s" + " " * 59998 + ")")


if __name__ == "__main__":
    unittest.main()
