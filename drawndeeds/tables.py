"""Tables: how much leads from each place to each one, their products, powers and traces."""

from drawndeeds.heaps import grown


def led_table(n, deeds, weights):
    """Return the table that has at (p, q) the sum of the weights of the deeds that lead p to q."""
    rows = [[0] * n for _ in range(n)]
    for deed, weight in zip(deeds, weights):
        for row, q in zip(rows, deed):
            row[q] += weight
    return tuple([tuple(row) for row in rows])


def table_of(book, weights):
    """Return the table of a book at weights."""
    return led_table(book[0], book[1], weights)


def member_table(book, weights):
    """Return the table of a book at member weights."""
    return led_table(book[0], grown(book)[0], weights)


def idle_table(n):
    """Return the table of the idle deed: 1 at each (p, p) and 0 elsewhere."""
    return tuple([(0,) * p + (1,) + (0,) * (n - 1 - p) for p in range(n)])


def multiplied(one, other):
    """Return the product of two tables."""
    columns = [[row[q] for row in other] for q in range(len(other))]
    return tuple([tuple([sum([a * b for a, b in zip(row, column)]) for column in columns]) for row in one])


def power_of(table, t):
    """Return a power of a table."""
    made = idle_table(len(table))
    doubled = table
    while t > 0:
        if t & 1 == 1:
            made = multiplied(made, doubled)
        t = t // 2
        if t > 0:
            doubled = multiplied(doubled, doubled)
    return made


def trace_of(table):
    """Return the trace of a table."""
    return sum([row[p] for p, row in enumerate(table)])
