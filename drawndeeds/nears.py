"""How near a walk has come to where it rests, behind some draws."""

from math import lcm

from drawndeeds.chains import fades_to_one
from drawndeeds.ends import ends
from drawndeeds.homecomings import raised
from drawndeeds.keptlots import steps_of
from drawndeeds.past import led, spread
from drawndeeds.resting import end_share, least_fraction


def whole_chances(book, weights, t):
    """Return the whole chances at t, or None for a book that is not fading, or that has more than one clump."""
    if not fades_to_one(book):
        return None
    # Here just what needs the whole leads all places to one: each letter ahead of that changes nothing.
    return tuple([least_fraction(worth, raised(sum(weights), t)) for worth in led(book, weights, t)])


def distance(book, weights, p, t):
    """Return the distance of a start at t, or None if the book has more than one end."""
    if len(ends(book)) > 1:
        return None
    steps = steps_of(book)
    worths = {p: 1}
    for _ in range(t):
        worths = spread(steps, weights, worths)
    share = end_share(book, weights, 0)
    whole = raised(sum(weights), t)
    scale = 1
    for _, under in share:
        scale = lcm(scale, under)
    sizes = [abs(worths.get(q, 0) * scale - over * (scale // under) * whole) for q, (over, under) in enumerate(share)]
    return least_fraction(sum(sizes), 2 * scale * whole)
