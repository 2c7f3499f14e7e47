"""Which face draws need, with what chances, and how many draws need the whole in the mean."""

from drawndeeds.atweights import face_speeds
from drawndeeds.homecomings import raised
from drawndeeds.lattice import is_within, sum_within
from drawndeeds.resting import least_fraction


def need_chances(book, weights, t):
    """Return the list of the pairs (lot, chance), for all faces, of the chances that t draws need just this face."""
    speeds = face_speeds(book, weights)
    faces = [f for f, _ in speeds]
    whole = raised(sum(weights), t)
    found = []
    # The chances of all faces within one add up to that which its speed tells.
    for f, speed in speeds:
        found.append(raised(speed, t) - sum_within(faces, found, f))
    return [(f, least_fraction(number, whole)) for f, number in zip(faces, found)]


def need_of_whole(book, weights, t):
    """Return the chance that t draws need the whole."""
    return need_chances(book, weights, t)[-1][1]


def mean_need(book, weights):
    """Return the mean need."""
    total = sum(weights)
    over, under = 0, 1
    signs = []
    # The signed number of a face within the whole is told by those of all greater faces.
    for f, speed in reversed(face_speeds(book, weights)):
        sign = -sum([other for g, other in signs if is_within(f, g)]) if len(signs) > 0 else 1
        signs.append((f, sign))
        if len(signs) > 1:
            over, under = least_fraction(over * (total - speed) - sign * total * under, under * (total - speed))
    return (over, under)
