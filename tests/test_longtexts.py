"""Long texts: their lexemes, what they tell, and where they are wrong; and that long and short texts go alike."""

import random
import unittest

from drawndeeds.errors import BadText, BadTree, TooMany, UnknownName
from drawndeeds.lexemes import SHORT, lexemes
from drawndeeds.sheettexts import read_sheet, read_word
from tests.sheetsupport import short_texts, slow_lexemes
from tests.support import Case

NAMES = ("s1234567890", "z")
LEXEMES = "s1234567890 77 - " * 3500
GAPS = " \n" * 30000 + "a"
WORD = "s1234567890 z ^ 2 " * 3300
SHEET = "sheet { places 1; deed s 0; word w " + "s ^ 1 " * 9900 + "; }"
PAD = "\n " * SHORT


def with_sign(text, place, sign):
    return text[:place] + sign + text[place:]


class LongTexts(Case):
    def bad(self, place, call, *given):
        self.refused(BadText, {"place": place}, call, *given)

    def test_answers(self):
        wanted = []
        for k in range(3500):
            wanted += [("name", "s1234567890", 17 * k), ("numeral", "77", 17 * k + 12), ("sign", "-", 17 * k + 15)]
        self.gives(wanted, lexemes, LEXEMES)
        self.gives([("name", "a", 60000)], lexemes, GAPS)
        self.gives((0, 1, 1) * 3300, read_word, NAMES, WORD)
        self.gives(((1, ((0,),)), ("s",), (("word", "w", (0,) * 9900),)), read_sheet, SHEET)

    def test_one_wrong_sign(self):
        for sign in ("A", "?", "\t", "_", "%", "~"):
            for text in (LEXEMES, GAPS):
                for place in (0, 17 * 1750, len(text) // 34 * 17, len(text) - 1, len(text)):
                    if text[place:place + 1] in ("", " ", "\n", "s") or place == 0:
                        self.bad(place, lexemes, with_sign(text, place, sign))
            for place in (0, 18 * 1650, len(WORD)):
                self.bad(place, read_word, NAMES, with_sign(WORD, place, sign))
            for place in (35 + 6 * 4950, len(SHEET)):
                self.bad(place, read_sheet, with_sign(SHEET, place, sign))
            # Within a lexeme: the lexeme ahead of it stands, but none begins at the sign.
            self.bad(17 * 1750 + 5, lexemes, with_sign(LEXEMES, 17 * 1750 + 5, sign))
            self.bad(17 * 1750 + 13, lexemes, with_sign(LEXEMES, 17 * 1750 + 13, sign))

    def test_lexemes_at_a_wrong_place(self):
        self.bad(18 * 1650 + 16, read_word, NAMES, with_sign(WORD, 18 * 1650 + 14, "^ "))
        self.bad(18 * 1650 + 14, read_word, NAMES, with_sign(WORD, 18 * 1650 + 14, "- "))
        self.bad(18 * 1650 + 16, read_word, NAMES, with_sign(WORD, 18 * 1650 + 14, "^ ^ ^ "))
        self.bad(len(WORD), read_word, NAMES, WORD + ")")
        self.bad(len(WORD) + 1, read_word, NAMES, WORD + "(")
        self.bad(len(WORD) + 4, read_word, NAMES, WORD + "( \n ")
        self.bad(len(WORD) + 2, read_word, NAMES, WORD + "z^")
        self.bad(len(SHEET), read_sheet, SHEET + "}")
        self.bad(len(SHEET) - 1, read_sheet, SHEET[:-1])
        self.bad(len(SHEET) - 1 + 3, read_sheet, SHEET[:-1] + "\n\n ")
        self.bad(len(SHEET) - 3, read_sheet, with_sign(SHEET, len(SHEET) - 3, "7"))
        # The first of two wrong places, whichever of both sorts it is.
        self.bad(len(WORD), read_word, NAMES, WORD + ") A")
        self.bad(len(WORD), read_word, NAMES, WORD + "A )")
        self.bad(30 + 18 * 1000, read_word, NAMES, with_sign(WORD, 30 + 18 * 1000 - 12, "z ^ 1234567 ^ 5 "))

    def test_further_refusals(self):
        self.refused(UnknownName, {"name": "y"}, read_word, NAMES, WORD + "y ^ 0")
        self.refused(UnknownName, {"name": "x"}, read_word, NAMES, "x ^ 20000 " + WORD + "y")
        self.refused(TooMany, {}, read_word, NAMES, WORD + "z ^ 101")
        self.gives((0, 1, 1) * 3300 + (1,) * 100, read_word, NAMES, WORD + "z ^ 100 (z ^ 9999 z ^ 9999) ^ 0")
        self.refused(UnknownName, {"name": "t"}, read_sheet, SHEET[:-1] + "word v t; }")
        self.refused(TooMany, {}, read_sheet, SHEET[:-3] + "s ^ 101; }")
        self.refused(BadTree, {"path": (2, 1, 1)}, read_sheet, SHEET[:-1] + "word w s; }")

    def test_long_lexemes(self):
        self.gives([("numeral", "0", k) for k in range(2 * SHORT)], lexemes, "0" * 2 * SHORT)
        self.gives([("numeral", "0", 0), ("numeral", "7" * SHORT, 1), ("name", "a7", SHORT + 1)], lexemes,
                   "0" + "7" * SHORT + "a7")
        self.bad(0, lexemes, "a" * (SHORT + 1))
        self.bad(SHORT, lexemes, "7" * SHORT + "a" * 13)

    def test_padded_texts_go_as_short_ones(self):
        for text in short_texts("a0 1;A\n", 5):
            found, wrong = slow_lexemes(text)
            for ahead, behind in ((PAD, ""), ("", PAD)):
                given = ahead + text + behind
                if wrong is not None:
                    with self.assertRaises(BadText) as caught:
                        lexemes(given)
                    self.assertEqual(caught.exception.place, wrong + len(ahead))
                else:
                    self.assertEqual([(lexeme, place - len(ahead)) for _, lexeme, place in lexemes(given)], found)

    def test_lengths_about_the_bound(self):
        for many in range(SHORT - 3, SHORT + 4):
            for text in ("a " * many, "7;" * many, "\n" * many + "z", "(" * many, "0" * many):
                for given in (text[:many], text[:many] + "-\t"):
                    found, wrong = slow_lexemes(given)
                    if wrong is None:
                        self.assertEqual([(lexeme, place) for _, lexeme, place in lexemes(given)], found)
                    else:
                        self.bad(wrong, lexemes, given)

    def test_random_words(self):
        chance = random.Random(91)
        signs = ["s", "z", "(", ")", "^ 2", "^ 0", " ", "\n", "^", "A", "y", "13"]
        for _ in range(400):
            text = " ".join(chance.choice(signs[:7] if chance.random() < 0.9 else signs) for _ in range(8))
            self.assertEqual(told(("s", "z"), text, 0), told(("s", "z"), PAD + text, len(PAD)))
            self.assertEqual(told(("s", "z"), text, 0)[:2], told(("s", "z"), text + " " + PAD, 0)[:2])


def told(names, text, less):
    """What a text tells, or its error, with the place as it is without so many characters ahead."""
    try:
        return ("word", read_word(names, text))
    except BadText as error:
        at_end = text[error.place:].strip(" \n") == ""
        return ("place", None if at_end else error.place - less)
    except (UnknownName, TooMany) as error:
        return (error.__class__, vars(error))


if __name__ == "__main__":
    unittest.main()
