"""Triangles: lines that each letter keeps or leads to noughts, but for what the lines ahead of them tell.

A span is told by a dict of rows, lines that are no sums of multiples of one another, each by the number of a place
where it is not 0 and the rows behind it in the dict are.
"""

from math import gcd, lcm

from drawndeeds.speeds import gathered
from drawndeeds.words import is_below, is_integer_tuple


def reduced(line):
    """Return the list of a line's numbers, divided by the greatest number that divides all of them."""
    divisor = 0
    for number in line:
        divisor = gcd(divisor, number)
        if divisor == 1:
            break
    return [number // divisor for number in line] if divisor > 1 else list(line)


def cleared(line, row, place):
    """Return a multiple of a line, less a multiple of a row, that is 0 at a place."""
    common = gcd(line[place], row[place])
    times, less = row[place] // common, line[place] // common
    return reduced([a * times - b * less for a, b in zip(line, row)])


def rest_in_span(rows, line):
    """Return a multiple of a line, less multiples of a span's rows: noughts exactly if the span has the line."""
    for place, row in rows.items():
        if line[place] != 0:
            line = cleared(line, row, place)
    return line


def has_line(rows, line):
    """Tell whether a line is a sum of multiples of a span's rows."""
    # As many rows as a line has numbers tell all lines.
    return len(rows) == len(line) or not any(rest_in_span(rows, line))


def take_in(rows, line):
    """Put a line into a span; tell whether the span has not had it."""
    rest = rest_in_span(rows, line)
    for place, number in enumerate(rest):
        if number != 0:
            rows[place] = reduced(rest)
            return True
    return False


def lines_beside(rows, n):
    """Return as many lines of n numbers as there can be, free of one another, that a span's rows bring to 0.

    A row brings a line to 0 if the products of their numbers, place by place, add up to 0.
    """
    full = {}
    for place in reversed(list(rows)):
        full[place] = rest_in_span(full, rows[place])
    found = []
    for free in range(n):
        if free not in full:
            scale = 1
            for place, row in full.items():
                scale = lcm(scale, row[place] // gcd(row[place], row[free]))
            line = [0] * n
            line[free] = scale
            for place, row in full.items():
                line[place] = -(row[free] * scale // row[place])
            found.append(reduced(line))
    return found


def led_line(line, deed):
    """Return the line to which a deed leads one."""
    return [line[p] for p in deed]


def moved(row, deed):
    """Return the row that brings each line to what a row brings the line to which a deed leads it."""
    found = [0] * len(row)
    for number, p in zip(row, deed):
        found[p] += number
    return found


def differences(deeds, row):
    """Return how a row is moved unlike by two words that come of one another as [S5.5] tells."""
    found = []
    for a, deed in enumerate(deeds):
        once = moved(row, deed)
        found.append(less_line(moved(once, deed), once))
        for other in deeds[:a]:
            found.append(less_line(moved(once, other), moved(moved(row, other), deed)))
    return found


def less_line(line, other):
    """Return a line less another one."""
    return [a - b for a, b in zip(line, other)]


def narrower(deeds, rows, find_lines):
    """Return the span of all that words move what is found for a span's rows to."""
    found = {}
    waiting = [line for row in list(rows.values()) for line in find_lines(deeds, row)]
    while len(waiting) > 0:
        line = waiting.pop()
        if any(line) and take_in(found, line):
            waiting.extend([moved(line, deed) for deed in deeds])
    return found


def spans_by(book, find_lines):
    """Return the spans from that of all rows to that of none, each one narrower than the one ahead.

    find_lines(deeds, row) tells what the next span has of a row. None stands for spans that do not come to an end.
    """
    n, deeds = book
    spans = [{p: [int(p == q) for q in range(n)] for p in range(n)}]
    while len(spans[-1]) > 0:
        spans.append(narrower(deeds, spans[-1], find_lines))
        if len(spans[-1]) == len(spans[-2]):
            return None
    return spans


def triangle(book):
    """Return a triangle of a book, or None if it has none."""
    n, deeds = book
    spans = spans_by(book, differences)
    if spans is None:
        return None
    # A span's differences lie in the next one. So on lines that the next one brings to 0, but for those that the
    # span does, words with one lot do the same; and such lines can be parted into kept and quenched ones.
    ahead = {}
    found = []
    for rows in spans[1:]:
        for line in lines_beside(rows, n):
            parts = parted(deeds, ahead, line)
            for marks, part in parts:
                if take_in(ahead, part):
                    found.append((marks, tuple(part)))
    return tuple(found)


def parted(deeds, ahead, line):
    """Return the list of pairs (marks, part) of the parts of a line, letter by letter, that a span does not have."""
    parts = [((), line)]
    for deed in deeds:
        halves = []
        for marks, part in parts:
            kept = led_line(part, deed)
            halves.append((marks + (1,), kept))
            halves.append((marks + (0,), less_line(part, kept)))
        parts = [(marks, reduced(half)) for marks, half in halves if not has_line(ahead, half)]
    return parts


def lot_of_marks(marks):
    """Return the lot of the letters with the mark 1."""
    return tuple([letter for letter, mark in enumerate(marks) if mark == 1])


def triangle_times(value):
    """Return the times that the pairs of a triangle tell."""
    return gathered([(lot_of_marks(marks), 1) for marks, _ in value])


def judge_triangle(book, value):
    """Return None if value, which may be anything, is a triangle of the book, or its first fault."""
    n, deeds = book
    if not is_triangle_form(n, len(deeds), value):
        return ("form",)
    ahead = {}
    for k, pair in enumerate(value):
        if not take_in(ahead, pair[1]):
            return ("line", k)
    ahead = {}
    for k, (marks, line) in enumerate(value):
        for letter, deed in enumerate(deeds):
            if not has_line(ahead, less_line(led_line(line, deed), [marks[letter] * number for number in line])):
                return ("mark", k, letter)
        take_in(ahead, line)
    return None


def is_triangle_form(n, g, value):
    """Tell whether value, which may be anything, is a tuple of n pairs of g marks and a line of n integers."""
    if not isinstance(value, tuple) or len(value) != n:
        return False
    for pair in value:
        if not isinstance(pair, tuple) or len(pair) != 2 or not is_integer_tuple(pair[0]) \
                or not is_integer_tuple(pair[1]):
            return False
        if len(pair[0]) != g or len(pair[1]) != n or not all([is_below(mark, 2) for mark in pair[0]]):
            return False
    return True
