"""errors.py: the classes, what they derive from, and what they keep."""

import unittest

from drawndeeds import errors


class Errors(unittest.TestCase):
    KEEPING = {
        "BadTree": "path", "BadText": "place", "BadAct": "word", "BadAsk": "word",
        "UnknownName": "name", "NoMember": "deed", "NoLot": "lot", "NoFace": "lot"}
    BARE = ("TooMany", "UnlikeLetters", "NothingDone")

    def test_base(self):
        self.assertEqual(errors.DeedError.__bases__, (ValueError,))

    def test_direct_subclasses(self):
        for name in list(self.KEEPING) + list(self.BARE):
            self.assertEqual(getattr(errors, name).__bases__, (errors.DeedError,), name)

    def test_no_other_classes(self):
        names = {cls.__name__ for cls in errors.DeedError.__subclasses__()}
        self.assertEqual(names, set(self.KEEPING) | set(self.BARE))

    def test_kept(self):
        for name, attribute in self.KEEPING.items():
            for value in ((1, 2), "x", [1], None, {}):
                error = getattr(errors, name)(value)
                self.assertIs(getattr(error, attribute), value)
                self.assertEqual(list(vars(error)), [attribute])

    def test_bare(self):
        for name in self.BARE:
            self.assertEqual(vars(getattr(errors, name)()), {})


if __name__ == "__main__":
    unittest.main()
