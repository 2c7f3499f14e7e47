"""What the tests share: small books, great books, values of all kinds, and slow ways to the same answers."""

import copy
import unittest
from itertools import product as tuples_of

from drawndeeds.lots import side_by_side

B = (2, ((1, 0), (0, 0)))
E = (3, ((1, 0, 1), (0, 1, 1)))
RING = (6, ((2, 3, 4, 5, 0, 1), (3, 4, 5, 0, 1, 2), (1, 2, 3, 4, 5, 0)))

# 20 and 10 members on five places, and together with E's five, 2 * 20 * 10 * 5 = 2,000.
FIVES = (5, ((1, 2, 3, 4, 0), (0, 2, 4, 1, 3)))
TENS = (5, ((1, 2, 3, 4, 0), (0, 4, 3, 2, 1)))


def idle_of(n):
    return tuple(range(n))


def apart_books(book, other):
    """Both books side by side, the letters of each idle in the other one."""
    n, deeds = book
    m, others = other
    return side_by_side(
        (n, deeds + (idle_of(n),) * len(others)), (m, (idle_of(m),) * len(deeds) + others))


def heap_of_400():
    return apart_books(FIVES, FIVES)


def heap_of_2000():
    forty = (7, ((1, 2, 3, 4, 0, 6, 5), (0, 2, 4, 1, 3, 5, 6)))
    return apart_books(forty, apart_books(TENS, E))


def heap_of_5040():
    return (7, ((1, 2, 3, 4, 5, 6, 0), (1, 0, 2, 3, 4, 5, 6)))


def all_books(n, g):
    deeds = list(tuples_of(range(n), repeat=n))
    return [(n, told) for told in tuples_of(deeds, repeat=g)]


SMALL = (all_books(1, 0) + all_books(1, 1) + all_books(1, 2) + all_books(2, 0) + all_books(2, 1)
         + all_books(2, 2) + all_books(3, 0) + all_books(3, 1) + all_books(3, 2)[::17])
MIDDLE = [
    B, E, RING, FIVES, TENS,
    (4, ((1, 1, 3, 3), (2, 3, 2, 3), (3, 3, 3, 3))),
    (3, ((0, 0, 2), (0, 1, 0))),
    (3, ((0, 0, 1),)),
    (4, ((1, 2, 3, 3),)),
    (3, ((2, 0, 0),)),
    (4, ((1, 0, 3, 2), (1, 1, 2, 2))),
    (3, ((1, 2, 0), (1, 0, 2), (0, 0, 2))),
    (5, ((1, 2, 0, 4, 3), (0, 0, 2, 3, 3))),
    (2, ((0, 1), (0, 1), (1, 1), (1, 1))),
    (8, ((1, 2, 3, 4, 5, 6, 7, 7), (0, 0, 1, 2, 3, 4, 5, 6))),
]


def words_up_to(g, longest):
    """All words of g letters that are not longer than this, in their order."""
    found = []
    for length in range(longest + 1):
        found += list(tuples_of(range(g), repeat=length))
    return found


def deed_of(book, word):
    """What a word does, place by place."""
    n, deeds = book
    led = []
    for p in range(n):
        for letter in word:
            p = deeds[letter][p]
        led.append(p)
    return tuple(led)


def slow_heap(book):
    """The heap with its least words, by looking at words length by length."""
    n, deeds = book
    found = {}
    length = 0
    while True:
        new = [(deed_of(book, word), word) for word in tuples_of(range(len(deeds)), repeat=length)]
        before = len(found)
        for deed, word in new:
            found.setdefault(deed, word)
        if len(found) == before:
            return found
        length += 1


def deep(depth):
    value = 0
    for _ in range(depth):
        value = (value,)
    return value


ANYTHING = [
    None, True, False, 0, 1, 2, -1, 10 ** 299, -(10 ** 299), "", "a", "sheet", "\t\n", (), [], {},
    (0,), (1,), [0], [0, 1], (0, 1), (1, 0), (True, False), (False, True), (0, 1, 2), ((),), ([],),
    ({},), (None,), ("a",), ((0, 1), ()), [(0, 1), ()], (((0, 1), ()),), [((0, 1), ())], {"a": 1},
    {0: ()}, {(0, 1): [1]}, (2, ((1, 0), (0, 0))), [2, ((1, 0), (0, 0))], deep(40), [deep(39)],
    ("form",), (0, [1]), ([0], 1), tuple(range(100)), (-1, 0), (0, -1), (10 ** 299, 0), "deed",
]


class Case(unittest.TestCase):
    """A test case with the questions that all tests ask."""

    def refused(self, error, told, call, *given):
        """The call raises this very error, with these attributes, each time, and changes nothing."""
        before = copy.deepcopy(given)
        for _ in range(2):
            with self.assertRaises(error) as caught:
                call(*given)
            self.assertIs(caught.exception.__class__, error)
            self.assertEqual(vars(caught.exception), told)
            for name in told:
                self.plain(told[name], getattr(caught.exception, name))
        self.assertEqual(given, before)

    def plain(self, wanted, value):
        """Both are equal, also in the classes of all their parts."""
        self.assertEqual(value, wanted)
        self.assertIs(value.__class__, wanted.__class__)
        if isinstance(wanted, (tuple, list)):
            for one, other in zip(wanted, value):
                self.plain(one, other)

    def gives(self, wanted, call, *given):
        """The call returns this, each time, and changes nothing."""
        before = copy.deepcopy(given)
        first = call(*given)
        self.plain(wanted, first)
        self.assertEqual(given, before)
        second = call(*given)
        self.plain(wanted, second)
        self.new_lists(first, second)
        return first

    def new_lists(self, first, second):
        """No list in one value is a list in the other, and none stands twice."""
        seen = lists_in(first) + lists_in(second)
        self.assertEqual(len({id(part) for part in seen}), len(seen))


def lists_in(value):
    found = []
    if isinstance(value, (list, dict)):
        found.append(value)
    if isinstance(value, (list, tuple)):
        for part in value:
            found += lists_in(part)
    return found
