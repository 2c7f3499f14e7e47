"""Stairs: steps of lines on which letters can be exchanged, but for what the steps ahead of them tell."""

from drawndeeds.triangles import has_line, led_line, less_line, lines_beside, moved, spans_by, take_in
from drawndeeds.words import is_integer_tuple


def exchanges(deeds, row):
    """Return how a row is moved unlike by two letters in the one sequence and in the other one."""
    once = [moved(row, deed) for deed in deeds]
    return [less_line(moved(once[a], deeds[b]), moved(once[b], deeds[a])) for a in range(len(deeds)) for b in range(a)]


def stairs(book):
    """Return stairs of a book, or None if it has none."""
    spans = spans_by(book, exchanges)
    if spans is None:
        return None
    # Lines that a span brings to 0 are kept, and exchanged letters differ on them by what the span ahead brings to 0.
    ahead = {}
    steps = []
    for rows in spans[1:]:
        step = []
        for line in lines_beside(rows, book[0]):
            if take_in(ahead, line):
                step.append(tuple(line))
        steps.append(tuple(step))
    return tuple(steps)


def judge_stairs(book, value):
    """Return None if value, which may be anything, is stairs of the book, or its first fault."""
    if not is_stairs_form(book[0], value):
        return ("form",)
    lines = [line for step in value for line in step]
    rows = {}
    for k in range(len(lines)):
        if not take_in(rows, lines[k]):
            return ("line", k)
    # Each line has brought one row, so what the lines up to one tell is told by as many rows.
    spans = spans_ahead(rows, [len(step) for step in value])
    for k, line in enumerate(lines):
        for a, deed in enumerate(book[1]):
            if not has_line(spans[k][1], led_line(line, deed)):
                return ("kept", k, a)
    for k, line in enumerate(lines):
        pair = first_turned(book[1], spans[k][0], line)
        if pair is not None:
            return ("turned", k) + pair
    return None


def spans_ahead(rows, sizes):
    """Return for each line the span of the steps ahead, and that with its own step, by rows and the steps' sizes."""
    places = list(rows)
    spans = []
    start = 0
    for size in sizes:
        ahead = {place: rows[place] for place in places[:start]}
        start += size
        spans += [(ahead, {place: rows[place] for place in places[:start]})] * size
    return spans


def is_stairs_form(n, value):
    """Tell whether value, which may be anything, is a tuple of steps that have n lines of n integers together."""
    if not isinstance(value, tuple):
        return False
    many = 0
    for step in value:
        if not isinstance(step, tuple) or len(step) == 0:
            return False
        if not all([is_integer_tuple(line) and len(line) == n for line in step]):
            return False
        many += len(step)
    return many == n


def first_turned(deeds, ahead, line):
    """Return the first two letters that cannot be exchanged on a line, but for what a span tells, or None."""
    once = [led_line(line, deed) for deed in deeds]
    for a, deed in enumerate(deeds):
        for b in range(a + 1, len(deeds)):
            if not has_line(ahead, less_line(led_line(once[a], deeds[b]), led_line(once[b], deed))):
                return (a, b)
    return None
