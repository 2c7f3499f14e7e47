"""Where a walk rests: standings, end shares, and the trees that tell them."""

from math import gcd, lcm

from drawndeeds.ends import ends
from drawndeeds.errors import TooMany
from drawndeeds.tables import led_table

MOST_TREES = 2000


def does_rest(book, weights, standing):
    """Tell whether a standing rests."""
    scale = 1
    for _, under in standing:
        scale = lcm(scale, under)
    sizes = [over * (scale // under) for over, under in standing]
    coming = [0] * len(sizes)
    for deed, weight in zip(book[1], weights):
        for q, size in zip(deed, sizes):
            coming[q] += weight * size
    total = sum(weights)
    return all([total * size == come for size, come in zip(sizes, coming)])


def end_share(book, weights, k):
    """Return the end share of the end with a number."""
    places = ends(book)[k]
    table = led_table(book[0], book[1], weights)
    sums = {p: sum_of_trees(table, places, p) for p in places}
    total = sum([sums[p] for p in places])
    return tuple([least_fraction(sums.get(p, 0), total) for p in range(book[0])])


def least_fraction(over, under):
    """Return the fraction in least form of two integers, the second one above 0."""
    common = gcd(over, under)
    return (over // common, under // common)


def end_shares(book, weights):
    """Return the tuple of the end shares of all ends, in their order."""
    return tuple([end_share(book, weights, k) for k in range(len(ends(book)))])


def end_with(book, p):
    """Return the end that has a place."""
    return [places for places in ends(book) if p in places][0]


def tree_sum(book, weights, p):
    """Return the tree sum of a place of an end."""
    return sum_of_trees(led_table(book[0], book[1], weights), end_with(book, p), p)


def sum_of_trees(table, places, p):
    """Return the tree sum of a place of an end, by the table of the book at the weights.

    It is the determinant of the square that has for each two other places of the end, less its own number in the
    table, what the letters lead away from a place, and noughts less what they lead from one to another one.
    """
    others = [q for q in places if q != p]
    square = []
    for q in others:
        row = [-table[q][r] for r in others]
        row[others.index(q)] += sum(table[q])
        square.append(row)
    return determinant(square)


def determinant(square):
    """Return the determinant of a square whose leading ones are none of them 0."""
    before = 1
    while len(square) > 1:
        first = square[0]
        square = [[(a * first[0] - row[0] * b) // before for a, b in zip(row[1:], first[1:])] for row in square[1:]]
        before = first[0]
    return square[0][0] if len(square) > 0 else 1


def trees_into(book, p):
    """Return the ascending list of all trees into a place of an end; raises TooMany() if they are more than 2,000."""
    if tree_sum(book, (1,) * len(book[1]), p) > MOST_TREES:
        raise TooMany()
    others = [q for q in end_with(book, p) if q != p]
    trees = [()]
    for q in others:
        trees = [tree + ((q, letter),) for tree in trees for letter in letters_onward(book, tree, q, p)]
    return trees


def letters_onward(book, tree, q, p):
    """Return the list of the letters of a place q with which part of a tree can still become a tree into p.

    So they are if, from where they lead q, p can be come to without q, where the tree has letters by these.
    """
    told = {place: letter for place, letter in tree}
    found = []
    open_places = {}
    for letter, deed in enumerate(book[1]):
        led = deed[q]
        if led not in open_places:
            open_places[led] = can_come(book, told, led, q, p)
        if open_places[led]:
            found.append(letter)
    return found


def can_come(book, told, start, barred, p):
    """Tell whether p can be come to from a place without a barred one, by the letters that are told or else by any."""
    seen = {barred: True, start: True}
    row = [start] if start != barred else []
    while len(row) > 0:
        here = row.pop()
        if here == p:
            return True
        deeds = (book[1][told[here]],) if here in told else book[1]
        for deed in deeds:
            led = deed[here]
            if led not in seen:
                seen[led] = True
                row.append(led)
    return False
