"""Turned times: which sums of weights, each turned by a root of one, the speeds of a book are, and how often.

Where a letter's turn stands for a root of one, numbers modulo a prime do so here: the prime is above all numbers that
are asked for, and one less than it is divided by all rings.
"""

from math import gcd, lcm

from drawndeeds.books import ascending_fault
from drawndeeds.heaps import walked
from drawndeeds.letterlots import MOST_MEMBERS, held_numbers
from drawndeeds.powers import lead_and_ring
from drawndeeds.rearranged import first_rearranged
from drawndeeds.words import is_below, is_integer


def rings(book):
    """Return the list of the letters' rings."""
    return [lead_and_ring(deed)[1] for deed in book[1]]


def turned_times(book):
    """Return the turned times of a book, or None if it has none.

    Raises TooMany() if its heap has more than 400 members.
    """
    walk = walked(book, MOST_MEMBERS)
    numbers = held_numbers(walk)
    if first_rearranged(walk, numbers) is not None:
        return None
    circles = rings(book)
    prime, roots = prime_and_roots(lcm_of(circles), book[0])
    # For each turn mark of the letters so far: what is held by words of the further ones, as it goes with this mark.
    marks = {((), ()): held_by_tallies(walk, numbers, circles)}
    for letter, ring in enumerate(circles):
        further = {}
        for (lot, turns), row in marks.items():
            size = len(row) // (ring + 1)
            parts = [row[k * size:(k + 1) * size] for k in range(ring + 1)]
            # Where the letter stands not at all there is also what goes with marks that have it.
            further[(lot, turns)] = [(a - b) % prime for a, b in zip(parts[0], parts[ring])]
            for turn in range(ring):
                further[(lot + (letter,), turns + (turn,))] = turned_share(parts, turn, roots, prime)
        marks = {mark: row for mark, row in further.items() if any(row)}
    return tuple([mark + (marks[mark][0],) for mark in sorted(marks)])


def lcm_of(numbers):
    """Return the least number of at least 1 that all of some numbers divide."""
    made = 1
    for number in numbers:
        made = lcm(made, number)
    return made


def held_by_tallies(walk, numbers, circles):
    """Return the list of what is held by words in which each letter stands from 0 times up to its ring's number.

    numbers tells what each member holds. The first letter's number goes up slowest.
    """
    row = [0]
    for letter, ring in enumerate(circles):
        longer = []
        for number in row:
            longer.append(number)
            for _ in range(ring):
                longer.append(walk.right[longer[-1]][letter])
        row = longer
    return [numbers[number] for number in row]


def turned_share(parts, turn, roots, prime):
    """Return the list of what goes with a turn of a letter, modulo a prime, parts telling it by how often it stands."""
    ring = len(parts) - 1
    step = turn * (len(roots) // ring)
    made = [0] * len(parts[0])
    for k in range(1, ring + 1):
        root = roots[-step * k % len(roots)]
        made = [a + root * b for a, b in zip(made, parts[k])]
    back = raised_below(ring, prime - 2, prime)
    return [number * back % prime for number in made]


def prime_and_roots(ring, least):
    """Return a prime above least, and the list of the powers of a number that come round modulo it by a ring."""
    prime = ring + 1
    while prime <= least or not is_prime(prime):
        prime += ring
    base = 1
    roots = [1]
    while len(roots) < ring:
        base += 1
        root = raised_below(base, (prime - 1) // ring, prime)
        roots = [1]
        while roots[-1] * root % prime != 1:
            roots.append(roots[-1] * root % prime)
    return prime, roots


def is_prime(number):
    """Tell whether a number of at least 2 is divided by none between 1 and itself."""
    divisor = 2
    while divisor * divisor <= number:
        if number % divisor == 0:
            return False
        divisor += 1
    return True


def raised_below(base, times, bound):
    """Return what is left of a power of a number when it is divided by bound."""
    made = 1
    while times > 0:
        if times & 1 == 1:
            made = made * base % bound
        base = base * base % bound
        times = times // 2
    return made


def judge_turned(book, value):
    """Return None if value, which may be anything, is the turned times of the book, or its first fault.

    Raises TooMany() if the heap has more than 400 members.
    """
    told = turned_times(book)
    if not is_turned_form(rings(book), value):
        return ("form",)
    for k in range(1, len(value)):
        if value[k][:2] <= value[k - 1][:2]:
            return ("order", k)
    # There are no other ones, so what is not the turned times tells held of some word wrong.
    if value != told:
        return ("held",)
    return None


def is_turned_form(circles, value):
    """Tell whether value, which may be anything, is a tuple of triples of a lot, turns and an integer above 0."""
    if not isinstance(value, tuple):
        return False
    for triple in value:
        if not isinstance(triple, tuple) or len(triple) != 3 or ascending_fault(len(circles), triple[0]) is not None:
            return False
        lot, turns, number = triple
        if not isinstance(turns, tuple) or len(turns) != len(lot) or not is_integer(number) or number < 1:
            return False
        if not all([is_below(turn, circles[letter]) for letter, turn in zip(lot, turns)]):
            return False
    return True


def turned_homecomings(book, turned, worths, t):
    """Return the sum of [S11.7] for the turned times of a book, worths being a list of a number for each letter."""
    circles = rings(book)
    sums = {}
    for lot, turns, number in turned:
        ring, steps = common_ring(circles, lot, turns)
        marks = primitive_sums(ring)
        row = turned_power([(step, worths[letter]) for step, letter in zip(steps, lot)], ring, t)
        sums[ring] = sums.get(ring, 0) + number * sum([a * b for a, b in zip(row, marks)])
    # Of marks that come of one another by [S11.5] each one brings the mean of them all.
    return sum([total // primitive_sums(ring)[0] for ring, total in sums.items()])


def common_ring(circles, lot, turns):
    """Return the least ring in which all turns of a mark are steps, and the list of these steps."""
    pairs = [(turn, circles[letter]) for letter, turn in zip(lot, turns)]
    ring = lcm_of([circle // gcd(turn, circle) for turn, circle in pairs])
    return ring, [turn * ring // circle for turn, circle in pairs]


def turned_power(steps, ring, t):
    """Return the t-th power of a sum of worths, each turned by so many steps of a ring, told step by step."""
    worths = {}
    for step, worth in steps:
        worths[step] = worths.get(step, 0) + worth
    row = [1] + [0] * (ring - 1)
    for _ in range(t):
        longer = [0] * ring
        for step, worth in worths.items():
            longer = [a + worth * b for a, b in zip(longer, row[ring - step:] + row[:ring - step])]
        row = longer
    return row


def primitive_sums(ring):
    """Return for each number below a ring the sum of the roots of this very ring, each raised to that number."""
    sums = [ring] + [0] * (ring - 1)
    for divisor in range(1, ring):
        if ring % divisor == 0:
            less = primitive_sums(divisor)
            sums = [number - less[k % divisor] for k, number in enumerate(sums)]
    return sums
