"""words.py: [0.3], [0.4], S1.1, S1.3, S2.1."""

import unittest

from drawndeeds.words import is_ahead, is_integer, is_name, is_number
from tests.support import ANYTHING, Case, words_up_to


class Words(Case):
    def test_integers(self):
        for value in (0, 1, -1, 10 ** 299, -(10 ** 299)):
            self.gives(True, is_integer, value)
        for value in (True, False, None, "1", (), (1,), [1], {}, {1: 1}):
            self.gives(False, is_integer, value)

    def test_numbers(self):
        for value in (0, 1, 10 ** 299):
            self.gives(True, is_number, value)
        for value in (-1, -(10 ** 299), True, False, None, "0", "", (), (0,), [], {}):
            self.gives(False, is_number, value)

    def test_names(self):
        for value in ("a", "z", "a0", "z9", "abcdefghijkl", "a00000000000", "sheet", "deed", "zzzzzzzzzzzz"):
            self.gives(True, is_name, value)
        for value in ("", "0", "9a", "A", "aB", "a b", " a", "a ", "a\n", "a\t", "a_", "a-", "abcdefghijklm",
                      "a000000000000", "{", "`", "a`", "a{", "a/", "a:", None, True, 0, 1, ("a",), ["a"], {"a": 1}, ()):
            self.gives(False, is_name, value)

    def test_anything(self):
        for value in ANYTHING:
            for call in (is_integer, is_number, is_name):
                self.assertIs(call(value).__class__, bool)

    def test_ahead_by_length_then_letters(self):
        self.gives(True, is_ahead, (), (0,))
        self.gives(True, is_ahead, (5,), (0, 0))
        self.gives(True, is_ahead, (0, 1), (1, 0))
        self.gives(True, is_ahead, (0, 2), (0, 3))
        self.gives(False, is_ahead, (0, 0), (5,))
        self.gives(False, is_ahead, (1, 0), (0, 1))
        self.gives(False, is_ahead, (), ())
        self.gives(False, is_ahead, (1, 2), (1, 2))
        long = (0,) * 2000
        self.gives(True, is_ahead, (5,) * 1999, long)
        self.gives(True, is_ahead, long, (0,) * 1999 + (1,))
        self.gives(False, is_ahead, long, long)

    def test_order_of_all_words(self):
        words = words_up_to(2, 4)
        for i, word in enumerate(words):
            for j, other in enumerate(words):
                self.assertIs(is_ahead(word, other), i < j)


if __name__ == "__main__":
    unittest.main()
