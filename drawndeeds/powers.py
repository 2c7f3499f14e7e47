"""Powers of deeds, settled members, and members that are mended."""

from math import lcm

from drawndeeds.books import done, idle, is_settled, is_word, product
from drawndeeds.heaps import grown


def power(deed, k):
    """Return what a deed done k times does, k at least 0."""
    made = idle(len(deed))
    doubled = deed
    while k > 0:
        if k & 1 == 1:
            made = product(made, doubled)
        doubled = product(doubled, doubled)
        k = k // 2
    return made


def lead_and_ring(deed):
    """Return the pair (lead, ring) of a deed."""
    lead, ring = 0, 1
    for place in range(len(deed)):
        steps, loop = steps_and_loop(deed, place)
        lead = max(lead, steps)
        ring = lcm(ring, loop)
    return (lead, ring)


def steps_and_loop(deed, place):
    """Return how many steps lead from a place to a ring of places, and how many places this ring has."""
    step_at = {}
    while place not in step_at:
        step_at[place] = len(step_at)
        place = deed[place]
    return step_at[place], len(step_at) - step_at[place]


def settled_power(deed):
    """Return the settled one of a deed's powers from the first one on."""
    lead, ring = lead_and_ring(deed)
    return power(deed, ring * max(1, (lead + ring - 1) // ring))


def settled_members(book):
    """Return the list of the settled members, in the heap's order."""
    return [member for member in grown(book)[0] if is_settled(member)]


def mending_paper(book, m):
    """Return a word that mends a member, or None if it is not mended."""
    members, words, _ = grown(book)
    for member, word in zip(members, words):
        if mends(member, m):
            return word
    return None


def mends(deed, m):
    """Tell whether m, then a deed, then m again are together m."""
    return product(product(m, deed), m) == m


def judge_mending(book, m, value):
    """Return None if value, which may be anything, is a mending paper, or its first fault."""
    if not is_word(len(book[1]), value):
        return ("form",)
    if not mends(done(book, value), m):
        return ("mends",)
    return None
