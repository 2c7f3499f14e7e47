"""With what chances walks come into ends, and how many draws they take in the mean to come into a lot of places."""

from drawndeeds.comings import numbers_from
from drawndeeds.ends import ends
from drawndeeds.keptlots import steps_of
from drawndeeds.resting import end_share, least_fraction
from drawndeeds.triangles import cleared


def comings(book, weights):
    """Return the comings: for each place the tuple of the chances that a walk from it comes into each end."""
    lots = ends(book)
    numbers = {p: k for k, lot in enumerate(lots) for p in lot}
    steps = {p: row for p, row in enumerate(steps_of(book)) if p not in numbers}
    sides = [weights_into(numbers, onward, weights, len(lots)) for onward in list(steps.values())]
    rows = [row + side for row, side in zip(balances(steps, weights), sides)]
    found = {p: tuple(chances) for p, chances in zip(list(steps), solved(rows))}
    for p, at in numbers.items():
        found[p] = tuple([(int(k == at), 1) for k in range(len(lots))])
    return tuple([found[p] for p in range(book[0])])


def weights_into(numbers, onward, weights, many):
    """Return the list that has for each of many numbers what leads to places with it, numbers telling those of places.

    onward has to which place each letter leads.
    """
    into = [0] * many
    for p, weight in zip(onward, weights):
        if p in numbers:
            into[numbers[p]] += weight
    return into


def means(book, weights, lot):
    """Return the tuple that has for each place its mean until a walk is in a lot of places, or None."""
    # Where a walk goes on from the lot does not matter.
    onward = [[] if p in lot else row for p, row in enumerate(steps_of(book))]
    come_to = [numbers_from(onward, p) for p in range(book[0])]
    lost = [p for p in range(book[0]) if not any([q in lot for q in come_to[p]])]
    steps = {p: row for p, row in enumerate(onward) if p not in lot and not any([q in lost for q in come_to[p]])}
    found = mean_draws(steps, weights)
    return tuple([(0, 1) if p in lot else found.get(p) for p in range(book[0])])


def mean_back(book, weights, p):
    """Return the mean back of a place of an end."""
    share = [end_share(book, weights, k)[p] for k, lot in enumerate(ends(book)) if p in lot][0]
    return (share[1], share[0])


def mean_draws(steps, weights):
    """Return the dict of the mean numbers of draws from names until something else than a name is come to.

    steps has for each name to what the letters lead it.
    """
    rows = [row + [sum(weights)] for row in balances(steps, weights)]
    return {name: told[0] for name, told in zip(list(steps), solved(rows))}


def balances(steps, weights):
    """Return for each name the row of the weight that is drawn at it, less what leads it to each of the names."""
    places = {name: k for k, name in enumerate(steps)}
    rows = []
    for onward in list(steps.values()):
        row = [0] * len(places)
        row[len(rows)] = sum(weights)
        for led, weight in zip(onward, weights):
            if led in places:
                row[places[led]] -= weight
        rows.append(row)
    return rows


def solved(rows):
    """Return for each unknown number the list of its values, fractions, one for each right side of some equations.

    A row has what the unknown numbers, as many as there are rows, are taken times, and the right sides behind that.
    The numbers on the diagonal have to stay above 0, as they do where a walk leaves all names at last.
    """
    many = len(rows)
    rows = list(rows)
    for k in range(many):
        for j in range(k + 1, many):
            if rows[j][k] != 0:
                rows[j] = cleared(rows[j], rows[k], k)
    sides = [values_upward(rows, at) for at in range(many, len(rows[0]))] if many > 0 else []
    return [[side[k] for side in sides] for k in range(many)]


def values_upward(rows, at):
    """Return the list of the values of the unknown numbers by rows with noughts below the diagonal."""
    told, under = [0] * len(rows), 1
    for k in range(len(rows) - 1, -1, -1):
        row = rows[k]
        over = row[at] * under - sum([row[j] * told[j] for j in range(k + 1, len(rows))])
        over, scale = least_fraction(over, row[k])
        if scale > 1:
            told = [scale * number for number in told]
            under = under * scale
        told[k] = over
    return [least_fraction(number, under) for number in told]
