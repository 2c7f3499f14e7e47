"""console.py: S12.4."""

import random
import unittest

from drawndeeds.console import Console
from drawndeeds.desk import Desk
from drawndeeds.errors import TooMany, UnknownName
from drawndeeds.sheettexts import fraction_text, read_word, sheet_text
from tests.bookssupport import Q, W, put_in
from tests.desksupport import B_SHEET, FIRST, slow_act, some_act
from tests.sheetsupport import short_texts, slow_lexemes, slow_wrong_place, some_sheet, wheel_text
from tests.support import Case, heap_of_5040
from tests.test_desk import FOUR_HUNDRED, asked, desk_with, state
from tests.walkssupport import L, R, WHEEL

WORDS = ("undo redo size fading turned faces ends times letters parts mark since held share speeds meet turn drop deed "
         "word lead lot field parting weights chances sheet").split()


def console_with(*parts, book=B_SHEET[0], names=None):
    """A desk that has a sheet, and a console for it."""
    desk = desk_with(("sheet", (book, names or tuple("szabcd"[:len(book[1])]), parts)))
    return desk, Console(desk)


def part_text(sheet, part):
    """The row of a part as it is written in a sheet."""
    return sheet_text((sheet[0], sheet[1], (part,))).split("\n")[-3]


class Lines(Case):
    def says(self, console, line, answer):
        """This is answered, each time."""
        self.plain(answer, console.answer(line))

    def refuses(self, desk, console, line, answer):
        """This is answered, each time, and changes nothing."""
        before = state(desk)
        self.gives(answer, console.answer, line)
        self.assertEqual(state(desk), before)

    def test_examples(self):
        desk = Desk()
        console = Console(desk)
        self.refuses(desk, console, "undo ; redo ;", "no 7")
        self.refuses(desk, console, "undo", "no 4")
        self.refuses(desk, console, "meet 0 ;", "no 7")
        self.says(console, "sheet { places 2; deed a 0 0; deed b 1 1; deed c 0 1; weights v 2 3 5; word w a ^ 2; }",
            "done")
        self.says(console, "word x d;", "no letter")
        self.says(console, "times;", "a b c = 1, c = 1")
        self.says(console, "share v;", "2/5 3/5")
        self.says(console, "turn a 0 1;", "done")
        self.says(console, "deed d 1 0;", "no fit")
        desk, console = console_with(book=(2, ((1, 0),)), names=("x",))
        self.says(console, "meet 0 1;", "never")

    def test_the_desk_itself_is_changed(self):
        desk = Desk()
        one, other = Console(desk), Console(desk)
        self.says(one, "sheet{places 2;deed s 1 0;}", "done")
        self.says(other, "deed z 0 0;", "done")
        desk.do(("put", ("word", "w", (1,))))
        self.says(one, "held w;", "1")
        self.says(other, "undo;", "done")
        self.says(one, "held w;", "no name")
        self.plain([("sheet", ((2, ((1, 0),)), ("s",), ())), ("deed", "z", (0, 0))], desk.acts())
        self.plain(3, desk.redo())
        self.says(one, "parts;", "w")

    def test_acts(self):
        desk, console = console_with()
        for line, act in (
                ("deed s 0 0;", ("deed", "s", (0, 0))), ("deed new 1 1;", ("deed", "new", (1, 1))),
                ("turn s 1 1;", ("turn", "s", 1, 1)),
                ("word w s^2 (z s)^2;", ("put", ("word", "w", (0, 0, 1, 0, 1, 0)))),
                ("word none;", ("put", ("word", "none", ()))), ("lead l 1 0;", ("put", ("lead", "l", (1, 0)))),
                ("lot lot s new;", ("put", ("lot", "lot", (0, 2)))), ("lot o;", ("put", ("lot", "o", ()))),
                ("field f 0 1;", ("put", ("field", "f", (0, 1)))), ("field f;", ("put", ("field", "f", ()))),
                ("parting p 0, 1;", ("put", ("parting", "p", ((0,), (1,))))),
                ("weights v 3 - 2 -0;", ("put", ("weights", "v", (3, -2, 0)))),
                ("chances c 1/3 1/2 1/6;", ("put", ("chances", "c", ((1, 3), (1, 2), (1, 6))))),
                ("drop none;", ("drop", "none")),
                (" sheet\n{places 1 ; deed a 0 ; lot l a ; }\n",
                ("sheet", ((1, ((0,),)), ("a",), (("lot", "l", (0,)),))))):
            many = len(desk.acts())
            self.says(console, line, "done")
            self.plain(act, desk.acts()[-1])
            self.assertEqual(len(desk.acts()), many + 1)

    def test_refused_acts(self):
        desk, console = console_with(("word", "w", ()), ("weights", "v", (1, 2)))
        for line, answer in (
                ("sheet { places 0; }", "no sheet"), ("sheet { places 2; deed s 1; }", "no sheet"),
                ("sheet { places 9; }", "no many"), ("sheet { places 1;" + "".join(
                    "deed a" + str(k) + " 0;" for k in range(7)) + "}", "no many"),
                ("sheet { places 1; deed s 0; deed s 0; word w s; }", "no sheet"),
                ("sheet { places 2; word w s; }", "no letter"), ("sheet { places 0; lot l s; word w t; }", "no letter"),
                ("sheet { places 0; deed t 5; word w t^10001; }", "no great"),
                ("sheet { places 0; deed t 5; word w t^10001; lot l u; }", "no letter"),
                ("sheet { places 0; deed t 5; word w t^10001; lot l u; ", "no 53"),
                ("deed s 1;", "no deed"), ("deed s 1 2;", "no deed"), ("deed s 07;", "no deed"),
                ("deed t 1 0;", "no fit"),
                ("deed t 1 2;", "no deed"), ("deed t " + "9" * 40 + " 0;", "no deed"),
                ("turn t 0 0;", "no name"), ("turn w 0 0;", "no name"), ("turn t 9 9;", "no name"),
                ("turn s 2 0;", "no place"), ("turn s 0 " + "9" * 40 + ";", "no place"), ("drop s;", "no name"),
                ("word x t;", "no letter"), ("word x s^9999 (z z);", "no great"), ("word x s^20000 t;", "no letter"),
                ("word x (t)^0;", "no letter"), ("lot l z s;", "no part"), ("lot l s s;", "no part"),
                ("lot l s t;", "no letter"), ("lot l z s t;", "no letter"), ("lead l 0;", "no part"),
                ("field f 1 0;", "no part"), ("field f 2;", "no part"), ("parting p;", "no part"),
                ("parting p 1, 0;", "no part"),
                ("weights x 1;", "no part"), ("chances c 1/2 2/4;", "no part"), ("chances c 1/2;", "no part"),
                ("chances c 1/0 1;", "no part"), ("undo ; ", "done"), ("redo;", "done")):
            if answer == "done":
                self.says(console, line, answer)
            else:
                self.refuses(desk, console, line, answer)
        parts = tuple(("field", "f" + str(k), ()) for k in range(30))
        desk, console = console_with(*parts)
        self.refuses(desk, console, "word w s;", "no many")
        self.refuses(desk, console, "lot w z s;", "no part")
        self.says(console, "word f7 s;", "done")
        desk, console = console_with(book=(1, ((0,),) * 6))
        self.refuses(desk, console, "deed new 0;", "no many")
        self.refuses(desk, console, "deed new 1;", "no deed")
        desk, console = Desk(), None
        console = Console(desk)
        self.refuses(desk, console, "chances c;", "no part")
        self.says(console, "weights v;", "done")
        self.says(console, "lot l;", "done")

    def test_names_mean_the_letters_of_the_sheet_or_of_the_desk(self):
        desk, console = console_with()
        self.says(console, "word w z;", "done")
        self.refuses(desk, console, "sheet { places 2; deed new 0 0; word w z; }", "no letter")
        self.says(console, "sheet { places 2; deed new 0 0; word w new; }", "done")
        self.refuses(desk, console, "word u z;", "no letter")
        self.says(console, "undo;", "done")
        self.says(console, "word u z;", "done")

    def test_undo_redo_and_marks(self):
        desk, console = console_with()
        self.says(console, "mark m;", "done")
        self.says(console, "undo;", "done")
        self.refuses(desk, console, "undo;", "no nothing")
        self.says(console, "since m;", "-1")
        self.refuses(desk, console, "since n;", "no mark")
        self.says(console, "redo;", "done")
        self.refuses(desk, console, "redo;", "no nothing")
        self.says(console, "since m;", "0")
        self.says(console, "word w;", "done")
        self.says(console, "since m;", "1")
        self.says(console, "mark undo;", "done")
        self.plain(["m", "undo"], desk.marks())
        self.says(console, "undo;", "done")
        self.refuses(desk, console, "word w s^10001;", "no great")
        self.says(console, "mark m;", "done")
        self.says(console, "redo;", "done")
        self.says(console, "since m;", "1")
        self.says(console, "since undo;", "0")

    def test_answers_of_a_new_desk(self):
        console = Console(Desk())
        for line, answer in (("size;", "1"), ("fading;", "yes"), ("turned;", "yes"), ("faces;", "-"), ("ends;", "0"),
                             ("times;", "- = 1"), ("letters;", ""), ("parts;", ""), ("meet 0 0;", "no place"),
                             ("meet 0 1;", "no place"), ("held w;", "no name"), ("share v;", "no name"),
                             ("speeds v;", "no name"), ("undo;", "no nothing"), ("redo;", "no nothing"),
                             ("since a;", "no mark")):
            self.says(console, line, answer)

    def test_answers(self):
        parts = (("weights", "v", (2, 3, 5)), ("word", "w", (0, 2)), ("word", "none", ()),
            ("weights", "less", (0, -4, 1)),
                 ("lot", "l", ()))
        desk, console = console_with(*parts, book=Q)
        for line, answer in (
                ("size;", "3"), ("held w;", "1"), ("held none;", "2"), ("held v;", "no sort"), ("held q;", "no name"),
                ("fading;", "yes"), ("turned;", "yes"), ("faces;", "a, s z a"), ("ends;", "0 1"),
                ("times;", "a = 1, s z a = 1"),
                ("share v;", "2/5 3/5"), ("share less;", "no weights"), ("share w;", "no sort"),
                ("share q;", "no name"),
                ("speeds v;", "5 = 1, 10 = 1"), ("speeds less;", "-3 = 1, 1 = 1"), ("speeds l;", "no sort"),
                ("speeds q;", "no name"), ("meet 0 1;", "s"), ("meet 1 0;", "s"), ("meet 1 1;", "no place"),
                ("meet 0 2;", "no place"), ("letters;", "s z a"), ("parts;", "v w none less l")):
            self.says(console, line, answer.replace("a = 1, s z a = 1", "s z a = 1, a = 1"))
        self.plain(((((0, 1, 2), 1), ((2,), 1))), desk.times())

    def test_answers_of_several(self):
        desk, console = console_with(("weights", "v", (1, 1)), book=L)
        self.says(console, "ends;", "0, 3")
        self.says(console, "share v;", "no ends")
        self.says(console, "faces;", "-, s z")
        desk, console = console_with(("weights", "v", (1, 1)), book=R)
        self.says(console, "ends;", "0 1 2")
        self.says(console, "share v;", "2/5 2/5 1/5")
        self.says(console, "times;", "none")
        self.says(console, "speeds v;", "no sums")
        self.says(console, "fading;", "no")
        self.says(console, "turned;", "no")
        desk, console = console_with(book=WHEEL)
        self.says(console, "meet 2 0;", "s z s s s z")
        desk, console = console_with(("weights", "v", (1, 1)), book=(2, ((0, 0), (0, 1))))
        self.says(console, "share v;", "1 0")
        self.says(console, "times;", "s z = 1, z = 1")
        self.says(console, "speeds v;", "1 = 1, 2 = 1")
        desk, console = console_with(book=W)
        self.says(console, "times;", "s = 1, s z = 1, z = 1")
        desk, console = console_with(("weights", "v", ()), book=(3, ()))
        self.says(console, "times;", "- = 3")
        self.says(console, "speeds v;", "0 = 3")
        self.says(console, "ends;", "0, 1, 2")
        self.says(console, "share v;", "no weights")
        self.says(console, "meet 0 2;", "never")
        desk, console = console_with(book=put_in(6))
        self.says(console, "size;", "64")
        self.assertEqual(len(console.answer("faces;").split(", ")), 64)

    def test_too_many(self):
        desk, console = console_with(("weights", "v", (1, 1)), ("word", "w", (0,)), book=heap_of_5040())
        for line, answer in (("size;", "no great"), ("times;", "no great"), ("faces;", "no great"),
                ("fading;", "no great"),
                             ("turned;", "no great"), ("speeds v;", "no great"), ("speeds q;", "no name"),
                             ("speeds w;", "no sort"), ("held w;", "0"), ("ends;", "0 1 2 3 4 5 6"),
                             ("meet 0 1;", "never"),
                             ("share v;", "1/7 1/7 1/7 1/7 1/7 1/7 1/7"), ("share w;", "no sort")):
            self.says(console, line, answer)
        self.plain(0, desk.work())
        desk, console = console_with(book=FOUR_HUNDRED[0])
        self.says(console, "size;", "400")
        self.says(console, "turned;", "yes")
        desk, console = console_with(book=FOUR_HUNDRED[1])
        self.says(console, "size;", "no great")
        self.says(console, "turned;", "no great")


class Places(Case):
    def same(self, console, line):
        """A line that is none is answered with its first wrong place by all forms together."""
        place = slow_wrong_place("LINE", line)
        answer = console.answer(line)
        if place is not None:
            self.assertEqual(answer, "no " + str(place), line)
        else:
            self.assertFalse(answer[:3] == "no " and answer[3:].isdigit(), line)

    def test_lines_that_end_too_early(self):
        desk, console = console_with()
        for line, place in (("", 0), (" ", 1), ("\n \n", 3), ("size", 4), ("size  ", 6), ("word", 4), ("word w s", 8),
                            ("word w (s;", 9), ("turn s 0", 8), ("turn s 0 0", 10), ("meet 0 1\n", 9), ("sheet {", 7),
                            ("sheet { places 1; ", 18), ("chances c 1/", 12), ("weights v -", 11),
                            ("parting p 0,", 12)):
            before = state(desk)
            self.gives("no " + str(place), console.answer, line)
            self.assertEqual(state(desk), before)

    def test_wrong_lexemes(self):
        desk, console = console_with()
        for line, place in (
                ("sizes ;", 0), (" size size;", 6), ("size ; ;", 7), ("size 1;", 5), ("7;", 0), (";", 0),
                ("turn 0 0 0;", 5),
                ("turn s s 0;", 7), ("turn s 0 s;", 9), ("turn s 0 0 0;", 11), ("meet s 1;", 5), ("meet 0 1 2;", 9),
                ("held;", 4), ("held 1;", 5), ("held w w;", 7), ("mark m n;", 7), ("drop;", 4), ("undo 1;", 5),
                ("deed s 0 0; deed z 0 0;", 12), ("word w; word u;", 8), ("size; abcdefghijklm", 6),
                ("abcdefghijklm", 0),
                ("Size;", 0), ("size\t;", 4), ("size;\t", 5), ("size,", 4), ("?", 0), ("  ?", 2), ("meet 0 -1;", 7),
                ("weights v 1/2;", 11), ("chances c 1//2;", 12), ("word w s ^ ^;", 11), ("word w );", 7),
                ("lot l 0;", 6),
                ("sheet;", 5), ("sheet { places; }", 14), ("sheet { places 1; size; }", 18),
                ("sheet { places 1; } ;", 20),
                ("parting p ,;", 10), ("meet 0 " + "9" * 5000 + " 3;", 5008), ("size " + "9" * 5000 + ";", 5)):
            before = state(desk)
            self.gives("no " + str(place), console.answer, line)
            self.assertEqual(state(desk), before)
            self.assertEqual(slow_wrong_place("LINE", line), place)

    def test_by_the_forms(self):
        dice = random.Random(181)
        desk, console = console_with(("word", "w", (0,)), ("weights", "v", (1, 2)))
        row = WORDS + ["places", "s", "z", "w", "v", "0", "1", "12", ";", ";", ";", "{", "}", ",", "/", "-", "^", "(",
            ")", "?"]
        for _ in range(4000):
            lexemes = [dice.choice(WORDS)] + [dice.choice(row) for _ in range(dice.randrange(6))]
            self.same(console, wheel_text(lexemes))
            rest = [dice.choice(("s", "w", "0", "1", ";")) for _ in range(3)]
            self.same(console, wheel_text([dice.choice(WORDS[:20])] + rest))
        for text in short_texts("s;1 ^z?", 4):
            self.same(console, text)

    def test_changed_lines(self):
        dice = random.Random(182)
        for seed in range(60):
            sheet = some_sheet(seed)
            console = Console(desk_with(("sheet", sheet)))
            lines = [sheet_text(sheet)] + [part_text(sheet, part) for part in sheet[2]]
            lines += ["turn s 0 1;", "meet 0 1;", "since m;", "undo;", "parts;"]
            for line in lines:
                self.same(console, line)
                lexemes = [lexeme for lexeme, _ in slow_lexemes(line)[0]]
                for _ in range(3):
                    at = dice.randrange(len(lexemes))
                    new = dice.choice(([], [dice.choice(lexemes)], [lexemes[at]] * 2,
                        [dice.choice([";", "0", "x", "^", "-"])]))
                    self.same(console, wheel_text(lexemes[:at] + new + lexemes[at + 1:]))
                self.same(console, line[:dice.randrange(len(line))])

    def test_long_lines(self):
        desk, console = console_with()
        for line, answer in (
                (" \n" * 30000, "no 60000"), ("size" + " " * 59995 + ";", "4"), ("word w" + " s" * 10000 + ";", "done"),
                ("word w" + " s" * 10001 + ";", "no great"), ("word w " + "(s z)^0 " * 7000 + "s;", "done"),
                ("word w " + "t^0 " * 14000 + ";", "no letter"), ("lot l" + " s" * 29000 + ";", "no part"),
                ("field f" + " 0" * 29000 + ";", "no part"), ("word w" + " s" * 29990, "no 59986"),
                ("size;" + " " * 59994 + "x", "no 59999"), ("word w " + "(" * 60 + "s" + ")^2" * 60 + ";", "no great"),
                ("(" * 60000, "no 0"), ("word w " + "(" * 59993, "no 60000")):
            self.assertLessEqual(len(line), 60000)
            self.gives(answer, console.answer, line)
        self.plain(1, len(desk.sheet()[2]))
        parts = "".join("word w" + str(k) + " s ^ 10000;" for k in range(40))
        self.plain("done", console.answer("sheet{places 2;deed s 1 0;" + parts + "}"))
        self.plain("2", console.answer("held w39;"))


class Together(Case):
    def test_lines_do_what_acts_do(self):
        for seed in range(40):
            dice = random.Random(seed)
            desk, sheet = Desk(), FIRST
            console = Console(desk)
            for _ in range(20):
                act = some_act(dice, sheet)
                word, more = slow_act(sheet, act)
                if word in ("form", "sheet", "part") or (word == "name" and act[0] == "deed"):
                    continue
                if act[0] == "sheet":
                    line = sheet_text(act[1])
                elif act[0] == "put":
                    line = part_text(sheet, act[1])
                elif act[0] == "deed":
                    line = "deed " + act[1] + "".join(" " + str(p) for p in act[2]) + ";"
                else:
                    line = " ".join(str(x) for x in act) + ";"
                self.plain("done" if word is None else "no " + word, console.answer(line))
                sheet = more
                if word is None:
                    self.plain(act, desk.acts()[-1])
                self.assertEqual(desk.sheet(), sheet)

    def test_lines_ask_what_desks_are_asked(self):
        for seed in range(60):
            dice = random.Random(seed)
            desk, sheet = Desk(), FIRST
            for _ in range(12):
                act = some_act(dice, sheet)
                if slow_act(sheet, act)[0] is None:
                    desk.do(act)
                    sheet = desk.sheet()
            console = Console(desk)
            n = sheet[0][0]
            for line, call in (("size;", desk.size), ("faces;", desk.faces), ("times;", desk.times),
                    ("ends;", desk.ends),
                               ("fading;", desk.is_fading), ("turned;", desk.is_turned)):
                self.assertEqual(console.answer(line), self.written(sheet[1], line, asked(call)))
            for name in [part[1] for part in sheet[2]] + ["nothing"]:
                for word, call in (("held", desk.held), ("share", desk.share), ("speeds", desk.speeds)):
                    self.assertEqual(console.answer(word + " " + name + ";"),
                        self.written(sheet[1], word, asked(call, name)))
            for p in range(n + 1):
                for q in range(n + 1):
                    self.assertEqual(console.answer(f"meet {p} {q};"),
                        self.written(sheet[1], "meet", asked(desk.meeting, p, q)))
            self.assertEqual(console.answer("letters;"), " ".join(sheet[1]))
            self.assertEqual(console.answer("parts;"), " ".join(part[1] for part in sheet[2]))

    def written(self, names, line, told):
        """An answer as S12.4 writes it."""
        word = line.strip(";")
        if told == ("TooMany", {}):
            return "no great"
        if isinstance(told, tuple) and told[:1] == ("BadAsk",):
            return "no " + told[1]["word"]
        if word in ("fading", "turned"):
            return {True: "yes", False: "no"}[told]
        if told is None:
            return {"times": "none", "meet": "never"}[word]
        if word in ("size", "held"):
            return str(told)
        if word == "share":
            return " ".join(fraction_text(x) for x in told)
        if word == "meet":
            return " ".join(names[k] for k in told)
        if word == "ends":
            return ", ".join(" ".join(str(p) for p in lot) for lot in told)
        if word == "faces":
            return ", ".join(" ".join(names[k] for k in lot) or "-" for lot in told)
        if word == "times":
            return ", ".join((" ".join(names[k] for k in lot) or "-") + " = " + str(many) for lot, many in told)
        return ", ".join(f"{z} = {many}" for z, many in told)

    def test_words_of_lines_are_read_as_by_themselves(self):
        """What a word of a part tells or refuses is what read_word does with the names of the desk."""
        desk, console = console_with()
        for text in ("", "s", "s^3 z", "(s z)^2", "t", "(t)^0", "s^10000", "s^10001", "(s^101)^100", "()^7",
                "((z))^0 s"):
            found = asked(read_word, ("s", "z"), text)
            answer = console.answer("word w " + text + ";")
            if found == ("TooMany", {}):
                self.assertEqual(answer, "no great")
            elif found[:1] == ("UnknownName",):
                self.assertEqual(answer, "no letter")
            else:
                self.assertEqual(answer, "done")
                self.assertEqual(desk.sheet()[2], (("word", "w", found),))
        self.assertTrue(issubclass(TooMany, ValueError) and issubclass(UnknownName, ValueError))


if __name__ == "__main__":
    unittest.main()
