"""Draws that are read from the past: how likely they lead all to one place, and how many are needed in the mean."""

from drawndeeds.books import idle, product
from drawndeeds.coming import mean_draws
from drawndeeds.homecomings import raised
from drawndeeds.leading import walked_lots
from drawndeeds.ranks import led_pair
from drawndeeds.sure import is_sure, words_to_pairs


def led(book, weights, t):
    """Return the tuple of LED(t, q) for all places q."""
    lots, onward = walked_lots(book)
    worths = {0: 1}
    for _ in range(t):
        worths = spread(onward, weights, worths)
    found = [0] * book[0]
    for number, worth in worths.items():
        if len(lots[number]) == 1:
            found[lots[number][0]] = worth
    return tuple(found)


def spread(onward, weights, worths):
    """Return the dict of the worths behind one letter more, by the numbers to which the letters lead."""
    longer = {}
    for number, worth in worths.items():
        for step, weight in zip(onward[number], weights):
            longer[step] = longer.get(step, 0) + weight * worth
    return longer


def unled(book, weights, t):
    """Return UNLED(t)."""
    return raised(sum(weights), t) - sum(led(book, weights, t))


def told(book, draws):
    """Return TOLD(draws), or None if they tell nothing."""
    deed = idle(book[0])
    k = 0
    while min(deed) != max(deed):
        if k == len(draws):
            return None
        deed = product(book[1][draws[k]], deed)
        k += 1
    return (k, deed[0])


def mean_to_one(book, weights):
    """Return the mean to one, or None if it is no number."""
    lots, onward = walked_lots(book)
    if len(lots[0]) == 1:
        return (0, 1)
    if not any([len(lot) == 1 for lot in lots]):
        return None
    # Lots of more places stand ahead, since words do not lead from fewer to more.
    numbers = [number for _, number in sorted([(-len(lot), k) for k, lot in enumerate(lots) if len(lot) > 1])]
    steps = {number: onward[number] for number in numbers}
    return mean_draws(steps, weights)[0]


def mean_together(book, weights, pair):
    """Return the mean together of a pair, or None if it is no number."""
    if not is_sure(book, pair):
        return None
    steps = {other: [led_pair(deed, other) for deed in book[1]] for other in words_to_pairs(book, pair)}
    return mean_draws(steps, weights)[pair]
