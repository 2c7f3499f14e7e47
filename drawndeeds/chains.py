"""Chains: letters that are drawn one after another until the whole is needed, each of them needing more."""

from drawndeeds.atweights import speed_of
from drawndeeds.books import led_to
from drawndeeds.faces import face_with, reaches_of
from drawndeeds.fading import clumps, is_fading
from drawndeeds.letterlots import lot_of
from drawndeeds.resting import least_fraction


def chains(book):
    """Return the ascending list of all chains."""
    return [chain for chain, _ in chains_and_faces(book)]


def chains_and_faces(book):
    """Return the ascending list of all chains, each with the least faces of what is ahead of each of its letters."""
    g = len(book[1])
    reaches = reaches_of(book)
    # Each of these has, behind the faces that are asked for, that of all its letters.
    row = [((), [face_with(reaches, ())])]
    found = []
    known = {}
    while len(row) > 0:
        chain, faces = row.pop()
        if len(faces[-1]) == g:
            found.append((chain, faces[:-1]))
        # The last letter is put in first, so that what begins with the first one is taken out first.
        for letter in range(g - 1, -1, -1):
            if letter not in faces[-1]:
                lot = lot_of(faces[-1] + (letter,))
                if lot not in known:
                    known[lot] = face_with(reaches, lot)
                row.append((chain + (letter,), faces + [known[lot]]))
    return found


def chain_chances(book, weights):
    """Return the ascending list of the pairs of a chain and its chance."""
    total = sum(weights)
    found = []
    for chain, faces in chains_and_faces(book):
        over, under = 1, 1
        for letter, face in zip(chain, faces):
            over = over * weights[letter]
            under = under * (total - speed_of(face, weights))
        found.append((chain, least_fraction(over, under)))
    return found


def fades_to_one(book):
    """Tell whether a book is fading and of one clump."""
    return len(clumps(book)) == 1 and is_fading(book)


def chain_shares(book, weights):
    """Return for each place the sum of the chances of the chains that lead to it.

    That is None for a book that is not fading, or that has more than one clump.
    """
    if not fades_to_one(book):
        return None
    sums = [(0, 1)] * book[0]
    for chain, (over, under) in chain_chances(book, weights):
        p = led_to(book, chain[::-1], 0)
        sums[p] = least_fraction(sums[p][0] * under + over * sums[p][1], sums[p][1] * under)
    return tuple(sums)
