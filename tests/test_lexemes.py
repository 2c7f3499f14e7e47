"""lexemes.py: S2.2."""

import unittest

from drawndeeds.errors import BadText
from drawndeeds.lexemes import lexemes
from tests.sheetsupport import short_texts, slow_lexemes
from tests.support import Case


class Lexemes(Case):
    def bad(self, place, text):
        self.refused(BadText, {"place": place}, lexemes, text)

    def test_example(self):
        self.gives([("name", "a1", 0), ("numeral", "0", 3), ("numeral", "7", 4)], lexemes, "a1 07")

    def test_none(self):
        for text in ("", " ", "\n", " \n \n"):
            self.gives([], lexemes, text)

    def test_signs(self):
        for k, sign in enumerate("{}();,/-^"):
            self.gives([("sign", sign, 0)], lexemes, sign)
            self.gives([("sign", sign, k), ("sign", sign, k + 1)], lexemes, " " * k + sign + sign)

    def test_what_is_read_as_one(self):
        self.gives([("name", "ab", 0)], lexemes, "ab")
        self.gives([("name", "a", 0), ("name", "b", 2)], lexemes, "a\nb")
        self.gives([("numeral", "12", 0), ("name", "a3", 2)], lexemes, "12a3")
        self.gives([("numeral", "0", 0), ("numeral", "0", 1), ("numeral", "10", 2)], lexemes, "0010")
        self.gives([("numeral", "0", 0), ("name", "x0", 1)], lexemes, "0x0")
        self.gives([("name", "a", 1), ("sign", "-", 2), ("numeral", "5", 3)], lexemes, " a-5 ")

    def test_long_names(self):
        self.gives([("name", "a" * 12, 0)], lexemes, "a" * 12)
        self.gives([("name", "a12345678901", 2)], lexemes, "  a12345678901")
        self.bad(0, "a" * 13)
        self.bad(3, "7 (" + "a123456789012")
        self.bad(0, "a" * 60000)
        self.gives([("numeral", "1" * 13, 0), ("name", "a" * 12, 13)], lexemes, "1" * 13 + "a" * 12)

    def test_long_numerals(self):
        self.gives([("numeral", "9" * 60000, 0)], lexemes, "9" * 60000)
        self.gives([("numeral", "0", k) for k in range(5000)], lexemes, "0" * 5000)

    def test_what_begins_none(self):
        for code in list(range(32, 127)) + [9]:
            sign = chr(code)
            if sign not in "{}();,/-^ abcdefghijklmnopqrstuvwxyz0123456789":
                self.bad(0, sign)
                self.bad(4, "a 1 " + sign + " b")
                self.bad(5, "\n a1 " + sign)
                self.bad(1, "a" + sign)
                self.bad(1, "7" + sign)

    def test_all_short_texts(self):
        for text in short_texts("a0 1;A\n", 5):
            found, wrong = slow_lexemes(text)
            if wrong is not None:
                with self.assertRaises(BadText) as caught:
                    lexemes(text)
                self.assertEqual(caught.exception.place, wrong)
            else:
                self.assertEqual([(lexeme, place) for _, lexeme, place in lexemes(text)], found)

    def test_kinds(self):
        for kind, lexeme, _ in lexemes("sheet{places 0;deed s 10(a^2),-1/3}"):
            wanted = "name" if lexeme[0].isalpha() else "numeral" if lexeme[0].isdigit() else "sign"
            self.assertEqual(kind, wanted)


if __name__ == "__main__":
    unittest.main()
