"""coefficients.py: S6.2 and S6.3."""

import random
import unittest
from fractions import Fraction
from itertools import product as tables_of

from drawndeeds.coefficients import (
    by_roots, by_traces, coefficients_of, done_on, least_coefficients, times_in, traces_by, traces_of)
from drawndeeds.tables import multiplied, power_of, table_of, trace_of
from tests.bookssupport import Q, determinant, less_from
from tests.support import Case


def some_tables(chance):
    """Tables of one place to eight, with small and with great numbers."""
    found = [((0,),), ((5,),), ((10 ** 40,),), ((7, 3), (2, 8)), ((0, 1), (0, 0)), ((3, 0), (0, 3)), ((2, 1), (0, 2)),
             ((0, 0, 0), (0, 0, 0), (0, 0, 0)), ((2, 0, 0), (0, 2, 0), (0, 0, 3)), ((2, 1, 0), (0, 2, 0), (0, 0, 2)),
             ((0, 1, 0), (0, 0, 1), (1, 0, 0))]
    for n in range(1, 9):
        for size in (1, 2, 10 ** 7, 10 ** 40):
            found.append(tuple(tuple(chance.randrange(-size, size + 1) for _ in range(n)) for _ in range(n)))
        found.append(tuple(tuple(int(p == q) * (p // 3) + int(q == p + 1) for q in range(n)) for p in range(n)))
        found.append(tuple(tuple(int(p == q) * 4 for q in range(n)) for p in range(n)))
    return found


TABLES = some_tables(random.Random(21))


def worth(coefficients, x):
    return sum(c * Fraction(x) ** k for k, c in enumerate(coefficients))


def noughts(table):
    return not any(any(row) for row in table)


def are_free(lines):
    """Whether no line is a sum of multiples of the others."""
    rows = []
    for line in lines:
        now = [Fraction(x) for x in line]
        for at, row in rows:
            now = [x - now[at] * y for x, y in zip(now, row)]
        places = [p for p, x in enumerate(now) if x]
        if not places:
            return False
        rows.append((places[0], [x / now[places[0]] for x in now]))
    return True


class Coefficients(Case):
    def test_examples(self):
        table = table_of(Q, (2, 3, 5))
        self.gives((50, -15, 1), coefficients_of, table)
        self.gives((50, -15, 1), least_coefficients, table)
        self.gives((-3, 1), least_coefficients, ((3, 0), (0, 3)))
        self.gives((9, -6, 1), coefficients_of, ((3, 0), (0, 3)))
        self.gives((0, 1), coefficients_of, ((0,),))
        self.gives((0, 1), least_coefficients, ((0,) * 8,) * 8)

    def test_determinants(self):
        for table in TABLES:
            found = coefficients_of(table)
            self.gives(found, coefficients_of, table)
            self.assertEqual((len(found), found[-1]), (len(table) + 1, 1))
            self.assertTrue(all(c.__class__ is int for c in found))
            for z in (0, 1, -2, Fraction(1, 3), 10 ** 20):
                self.assertEqual(worth(found, z), determinant(less_from(z, table)))

    def test_coefficients_and_traces_tell_one_another(self):
        for table in TABLES:
            n = len(table)
            c = coefficients_of(table)
            s = [n] + traces_of(table, n)
            for k in range(1, n + 1):
                self.assertEqual(k * c[n - k] + sum(s[i] * c[n - k + i] for i in range(1, k + 1)), 0)
            self.gives(c, by_traces, s[1:])
            self.gives(c, by_traces, tuple(s[1:]))
            self.gives(s[1:], traces_by, c, n)
        small = [((a, b), (c, d)) for a, b, c, d in tables_of((-1, 0, 1, 2), repeat=4)]
        told = {}
        for table in small:
            told.setdefault(coefficients_of(table), set()).add(tuple(traces_of(table, 2)))
        self.assertTrue(all(len(traces) == 1 for traces in told.values()))
        self.assertEqual(len(told), len({tuple(traces_of(table, 2)) for table in small}))


class Least(Case):
    def test_they_are_noughts_and_no_fewer_are(self):
        for table in TABLES:
            found = self.gives(least_coefficients(table), least_coefficients, table)
            self.assertEqual(found[-1], 1)
            self.assertTrue(noughts(done_on(found, table)))
            self.assertTrue(noughts(done_on(coefficients_of(table), table)))
            self.assertTrue(are_free([sum(power_of(table, k), ()) for k in range(len(found) - 1)]))

    def test_they_divide_and_have_the_same_roots(self):
        for table in TABLES:
            own, least = coefficients_of(table), least_coefficients(table)
            rest = list(own)
            while len(rest) >= len(least):
                top = rest[-1]
                for k, c in enumerate(least):
                    rest[len(rest) - len(least) + k] -= top * c
                rest.pop()
            self.assertFalse(any(rest))
            for z in range(-5, 12):
                self.assertIs(times_in(own, z) > 0, times_in(least, z) > 0)

    def test_done_on(self):
        self.gives(((1, 0), (0, 1)), done_on, (1,), ((5, 6), (7, 8)))
        self.gives(((5, 6), (7, 8)), done_on, (0, 1), ((5, 6), (7, 8)))
        chance = random.Random(22)
        for table in TABLES:
            n = len(table)
            for many in (1, 2, 5, 17):
                c = tuple(chance.randrange(-10 ** 60, 10 ** 60) for _ in range(many - 1)) + (1,)
                wanted = [[0] * n for _ in range(n)]
                power = power_of(table, 0)
                for number in c:
                    wanted = [[a + number * b for a, b in zip(row, beside)] for row, beside in zip(wanted, power)]
                    power = multiplied(power, table)
                self.gives(tuple(tuple(row) for row in wanted), done_on, c, table)


class Traces(Case):
    def test_powers(self):
        for table in TABLES:
            most = 60 if max(abs(x) for row in table for x in row) <= 10 ** 7 else 20
            power = table
            wanted = []
            for t in range(1, most + 1):
                wanted.append(trace_of(power))
                power = multiplied(power, table)
            for t in {0, 1, 2, 3, len(table) - 1, len(table), len(table) + 1, 20, most}:
                self.gives(wanted[:t], traces_of, table, t)
                self.gives(wanted[:min(t, 30)], traces_by, coefficients_of(table), min(t, 30))

    def test_traces_by(self):
        self.gives([], traces_by, (5, 1), 0)
        self.gives([-5, 25, -125], traces_by, (5, 1), 3)
        self.gives([3, 9, 27, 81], traces_by, (0, 0, 0, -3, 1), 4)
        great = (10 ** 60,) * 16 + (1,)
        table = tuple(tuple(int(q == p + 1) if p < 15 else -great[q] for q in range(16)) for p in range(16))
        self.gives([trace_of(power_of(table, t)) for t in range(1, 31)], traces_by, great, 30)

    def test_by_traces(self):
        self.gives((-7, 1), by_traces, [7])
        self.gives((-7, 1), by_traces, (7,))
        self.gives(None, by_traces, [0, 1])
        self.gives((1, 0, 1), by_traces, [0, -2])
        self.gives(None, by_traces, [1, 1, 1, 2])
        self.gives(None, by_traces, [1, 2, 3, 4, 5])
        self.gives((0,) * 16 + (1,), by_traces, [0] * 16)
        self.gives((-(10 ** 200), 1), by_traces, [10 ** 200])
        chance = random.Random(23)
        seen = set()
        for _ in range(300):
            traces = [chance.randrange(-5, 6) for _ in range(chance.randrange(1, 5))]
            c = [Fraction(1)]
            for k in range(1, len(traces) + 1):
                c.append(-sum(traces[i - 1] * c[k - i] for i in range(1, k + 1)) / k)
            wanted = tuple(int(x) for x in c[::-1]) if all(x.denominator == 1 for x in c) else None
            seen.add(wanted is None)
            self.gives(wanted, by_traces, traces)
        self.assertEqual(seen, {True, False})
        great = [chance.randrange(10 ** 199, 10 ** 200) for _ in range(16)]
        self.gives(by_traces(great), by_traces, tuple(great))


class Roots(Case):
    def test_times(self):
        self.gives(0, times_in, (1,), 0)
        self.gives(0, times_in, (1,), 5)
        self.gives(16, times_in, (0,) * 16 + (1,), 0)
        self.gives(0, times_in, (0,) * 16 + (1,), 1)
        self.gives(2, times_in, (9, -6, 1), 3)
        self.gives(0, times_in, (9, -6, 1), -3)
        self.gives(0, times_in, (1, 0, 1), 1)
        great = 10 ** 40
        self.gives(3, times_in, by_roots(((great, 3), (-great, 2), (great - 1, 1))), great)

    def test_by_roots(self):
        self.gives((1,), by_roots, ())
        self.gives((1,), by_roots, ((7, 0),))
        self.gives((50, -15, 1), by_roots, ((5, 1), (10, 1)))
        self.gives((50, -15, 1), by_roots, ((10, 1), (5, 1), (4, 0)))
        self.gives((0, 0, 1), by_roots, ((0, 1), (0, 1)))
        chance = random.Random(24)
        for _ in range(60):
            pairs = tuple((chance.choice([0, 1, -1, 3, 10 ** 40, -(10 ** 40)]), chance.randrange(4)) for _ in range(5))
            found = self.gives(by_roots(pairs), by_roots, pairs)
            self.assertEqual(len(found), 1 + sum(number for _, number in pairs))
            for z in (0, 1, -1, 3, 10 ** 40, -(10 ** 40), 7):
                self.gives(sum(number for other, number in pairs if other == z), times_in, found, z)
            x = Fraction(2, 7)
            wanted = Fraction(1)
            for z, number in pairs:
                wanted *= (x - z) ** number
            self.assertEqual(worth(found, x), wanted)


if __name__ == "__main__":
    unittest.main()
