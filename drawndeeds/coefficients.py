"""Coefficients of tables, the traces that go with them, and how often an integer is among their roots."""

from drawndeeds.tables import idle_table, multiplied, trace_of
from drawndeeds.triangles import rest_in_span, take_in


def coefficients_of(table):
    """Return the coefficients of a table."""
    return by_traces(traces_of(table, len(table)))


def traces_of(table, t):
    """Return the list of the traces of a table's powers 1 to t."""
    n = len(table)
    if t > n:
        return traces_by(coefficients_of(table), t)
    powers = [table]
    while 2 * len(powers) < t:
        powers.append(multiplied(powers[-1], table))
    traces = [trace_of(power) for power in powers]
    # The trace of a product needs only one number of it for each place.
    for power in powers:
        traces.append(sum([sum([a * row[p] for a, row in zip(powers[-1][p], power)]) for p in range(n)]))
    return traces[:t]


def traces_by(coefficients, t):
    """Return the list of the traces of the powers 1 to t of any table with these coefficients."""
    downward = coefficients[::-1]
    n = len(coefficients) - 1
    traces = []
    for k in range(1, t + 1):
        total = k * downward[k] if k <= n else 0
        for i in range(1, min(k - 1, n) + 1):
            total += downward[i] * traces[k - i - 1]
        traces.append(-total)
    return traces


def by_traces(traces):
    """Return the coefficients that go with the traces of the powers 1 to n, or None if some are no integers."""
    downward = [1]
    for k in range(1, len(traces) + 1):
        total = sum([trace * number for trace, number in zip(traces[:k], downward[::-1])])
        if total % k != 0:
            return None
        downward.append(-(total // k))
    return tuple(downward[::-1])


def least_coefficients(table):
    """Return the least coefficients of a table."""
    n = len(table)
    made = [1]
    # What brings one line after another to noughts brings the whole table to noughts.
    for place in range(n):
        line = done_on_line(made, table, [int(p == place) for p in range(n)])
        made = joined_factors(made, least_for_line(table, line))
    return tuple(made)


def led_on(line, table):
    """Return a line times a table."""
    return [sum([a * row[q] for a, row in zip(line, table)]) for q in range(len(table))]


def done_on_line(coefficients, table, line):
    """Return a line times the table that coefficients are when they are done on a table."""
    made = [0] * len(line)
    for number in coefficients[::-1]:
        made = [a + number * b for a, b in zip(led_on(made, table), line)]
    return made


def least_for_line(table, line):
    """Return the list of the fewest coefficients that are done on a table noughts for a line."""
    n = len(table)
    rows = {}
    power, k = line, 0
    # Behind each line stands of how much of which of the lines so far it is made.
    made = line + [int(j == k) for j in range(n + 1)]
    while any(made[:n]):
        take_in(rows, made)
        power, k = led_on(power, table), k + 1
        made = rest_in_span(rows, power + [int(j == k) for j in range(n + 1)])
    return [number // made[n + k] for number in made[n:n + k + 1]]


def joined_factors(one, other):
    """Return the list of the coefficients of the product of what two lists of coefficients stand for."""
    made = [0] * (len(one) + len(other) - 1)
    for j, a in enumerate(one):
        for k, b in enumerate(other):
            made[j + k] += a * b
    return made


def done_on(coefficients, table):
    """Return the table that coefficients are when they are done on a table."""
    n = len(table)
    made = scaled_idle(n, 0)
    for number in coefficients[::-1]:
        made = added(multiplied(made, table), scaled_idle(n, number))
    return made


def scaled_idle(n, number):
    """Return the table that has a number at each (p, p) and 0 elsewhere."""
    return tuple([tuple([number * sign for sign in row]) for row in idle_table(n)])


def added(one, other):
    """Return the sum of two tables."""
    return tuple([tuple([a + b for a, b in zip(row, beside)]) for row, beside in zip(one, other)])


def times_in(coefficients, z):
    """Return the times of an integer in coefficients."""
    found = 0
    divided, rest = divided_by_root(coefficients, z)
    while rest == 0:
        found += 1
        divided, rest = divided_by_root(divided, z)
    return found


def divided_by_root(coefficients, z):
    """Return the coefficients without a factor x - z, as far as there is one, and what is left over."""
    found = []
    rest = 0
    for number in coefficients[::-1]:
        found.append(rest)
        rest = rest * z + number
    return tuple(found[:0:-1]), rest


def by_roots(pairs):
    """Return the coefficients of the product, over pairs (z, number), of x - z, number times."""
    made = [1]
    for z, number in pairs:
        for _ in range(number):
            made = joined_factors(made, [-z, 1])
    return tuple(made)
