"""chains.py: S10.6."""

import random
import unittest
from fractions import Fraction
from itertools import permutations

from drawndeeds.atweights import face_speeds
from drawndeeds.chains import chain_chances, chain_shares, chains
from drawndeeds.faces import least_face
from drawndeeds.fading import clumps, is_fading
from drawndeeds.needs import mean_need
from drawndeeds.resting import end_share
from tests.bookssupport import EXCHANGE, NONE, ONE, OF_SUMS, Q, V, put_in, sums_of_400
from tests.support import Case, deed_of, heap_of_400
from tests.walkssupport import FADING, SWAYING, TO_ONE, WALKS, constants, front_first, pair_of, weights_for

BOOKS = WALKS + FADING + [V, put_in(5), OF_SUMS, sums_of_400()]


def ahead(chain):
    """What stands ahead of each letter of a chain."""
    return [chain[:k] for k in range(len(chain))]


def face_of(book, letters):
    return least_face(book, tuple(sorted(set(letters))))


def is_chain(book, chain):
    if any(letter in face_of(book, before) for letter, before in zip(chain, ahead(chain))):
        return False
    return face_of(book, chain) == tuple(range(len(book[1])))


class Chains(Case):
    def test_examples(self):
        self.gives([(0,), (1,)], chains, Q)
        self.gives([((0,), (2, 5)), ((1,), (3, 5))], chain_chances, Q, (2, 3, 5))
        self.gives(((2, 5), (3, 5)), chain_shares, Q, (2, 3, 5))

    def test_edges(self):
        # Where the whole is the only face () is the only chain.
        for book in (NONE, (1, ()), ONE, EXCHANGE, heap_of_400()):
            self.gives([()], chains, book)
        for book in (ONE, EXCHANGE, heap_of_400()):
            self.gives([((), (1, 1))], chain_chances, book, (10 ** 6,) * len(book[1]))
        self.gives(((1, 1),), chain_shares, ONE, (1, 2))
        self.gives(None, chain_shares, EXCHANGE, (1,))
        self.gives(None, chain_shares, (3, ((0, 1, 2), (0, 1, 2))), (1, 1))
        self.gives([(0, 1), (0, 2), (1, 0), (1, 2), (2,)], chains, V)
        self.gives(list(permutations(range(6))), chains, put_in(6))
        # A book that is fading, of two clumps; one of one clump that is not fading.
        self.assertTrue(is_fading((4, ((0, 0, 2, 2),))))
        self.gives(None, chain_shares, (4, ((0, 0, 2, 2),)), (1,))
        self.assertEqual(len(clumps(SWAYING)), 1)
        self.gives(None, chain_shares, SWAYING, (1, 1))
        # Ascending as tuples do, and not as words.
        found = chains((4, ((0, 0, 0, 0), (1, 1, 1, 1), (0, 2, 2, 2), (0, 1, 1, 1))))
        self.assertEqual(found, sorted(found))

    def test_shares_of_constants(self):
        weights = (1, 10 ** 6, 3, 5, 999983)
        total = sum(weights)
        self.gives(tuple(pair_of(Fraction(x, total)) for x in weights), chain_shares, constants(5), weights)
        # Items that are put ahead: one stands ahead of all others with the chance of its letter.
        rows = list(permutations(range(3)))
        wanted = []
        for row in rows:
            left, chance = Fraction(6), Fraction(1)
            for k in row:
                chance *= Fraction(k + 1) / left
                left -= k + 1
            wanted.append(pair_of(chance))
        self.gives(tuple(wanted), chain_shares, front_first(3), (1, 2, 3))

    def test_by_all_rows_of_letters(self):
        for book in BOOKS:
            g = len(book[1])
            if g < 6:
                wanted = [row for many in range(g + 1) for row in permutations(range(g), many) if is_chain(book, row)]
                self.gives(sorted(wanted), chains, book)
            else:
                found = self.gives(chains(book), chains, book)
                self.assertEqual(found, sorted(found))
                self.assertTrue(all(is_chain(book, chain) for chain in found[::7]))

    def test_chances(self):
        chance = random.Random(141)
        for book in [book for book in BOOKS if len(book[1]) > 0]:
            weights = weights_for(chance, book)
            total = sum(weights)
            speeds = dict(face_speeds(book, weights))
            found = self.gives(chain_chances(book, weights), chain_chances, book, weights)
            self.assertEqual([chain for chain, _ in found], chains(book))
            whole = mean = Fraction(0)
            for chain, told in found:
                steps = [total - speeds[face_of(book, before)] for before in ahead(chain)]
                made = Fraction(1)
                for letter, step in zip(chain, steps):
                    made *= Fraction(weights[letter], step)
                self.assertEqual(pair_of(made), told)
                whole += made
                mean += made * sum(Fraction(total, step) for step in steps)
            self.assertEqual(whole, 1)
            self.assertEqual(pair_of(mean), mean_need(book, weights))

    def test_shares(self):
        chance = random.Random(142)
        for book in [book for book in BOOKS if len(book[1]) > 0]:
            weights = weights_for(chance, book)
            found = self.gives(chain_shares(book, weights), chain_shares, book, weights)
            self.assertIs(found is None, book not in TO_ONE)
            if found is not None:
                self.assertEqual(found, end_share(book, weights, 0))
                sums = [Fraction(0)] * book[0]
                for chain, told in chain_chances(book, weights):
                    deed = deed_of(book, chain[::-1])
                    self.assertEqual(len(set(deed)), 1)
                    sums[deed[0]] += Fraction(*told)
                self.assertEqual(found, tuple(pair_of(x) for x in sums))


if __name__ == "__main__":
    unittest.main()
