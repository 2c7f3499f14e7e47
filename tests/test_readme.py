"""README.md: its examples do what it says."""

import doctest
import os
import unittest

README = os.path.join(os.path.dirname(os.path.dirname(os.path.abspath(__file__))), "README.md")


class Readme(unittest.TestCase):
    def test_examples(self):
        result = doctest.testfile(README, module_relative=False)
        self.assertEqual(result.failed, 0)
        self.assertGreater(result.attempted, 8)


if __name__ == "__main__":
    unittest.main()
