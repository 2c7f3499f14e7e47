"""Comings: which members are made of which, behind, ahead and around, with papers for it and against it."""

from drawndeeds.books import done, is_deed, is_word_pair, product
from drawndeeds.heaps import walked


def onward_in_way(walk, way):
    """Return for each member the list of the numbers of the members that come of it in a way by one letter.

    The right steps stand ahead of the left ones, each letter by letter.
    """
    if way == "behind":
        return walk.right
    if way == "ahead":
        return walk.left
    return [right + left for right, left in zip(walk.right, walk.left)]


def numbers_from(onward, start):
    """Return the dict that has all numbers to which steps lead from one."""
    seen = {start: True}
    row = [start]
    at = 0
    while at < len(row):
        steps = onward[row[at]]
        at += 1
        for number in steps:
            if number not in seen:
                seen[number] = True
                row.append(number)
    return seen


def step_back(onward, start, end):
    """Return the dict that has for numbers the one ahead of them on a shortest way from start, and which step it takes.

    It has the end, and all on the way to it, if steps lead there.
    """
    back = {start: None}
    row = [start]
    at = 0
    while at < len(row) and end not in back:
        here = row[at]
        at += 1
        for step, number in enumerate(onward[here]):
            if number not in back:
                back[number] = (here, step)
                row.append(number)
    return back


def coming_paper(book, way, a, m):
    """Return a coming paper, or None if m does not come of a in this way."""
    walk = walked(book)
    start, here = walk.numbers[a], walk.numbers[m]
    back = step_back(onward_in_way(walk, way), start, here)
    if here not in back:
        return None
    # The first steps that are taken to the left are those by the first letters behind all others.
    ahead, behind = [], []
    while here != start:
        here, step = back[here]
        if way == "ahead":
            ahead.append(step)
        elif step < len(book[1]):
            behind.append(step)
        else:
            ahead.append(step - len(book[1]))
    return (tuple(ahead), tuple(behind[::-1]))


def barring_paper(book, way, a, m):
    """Return all members that come of a in this way, in the heap's order, or None if m does."""
    walk = walked(book)
    found = numbers_from(onward_in_way(walk, way), walk.numbers[a])
    if walk.numbers[m] in found:
        return None
    return tuple([walk.members[number] for number in sorted(found)])


def judge_coming(book, way, a, m, value):
    """Return None if value, which may be anything, is a coming paper, or its first fault."""
    if not is_word_pair(len(book[1]), value):
        return ("form",)
    u, v = value
    if (way == "behind" and u != ()) or (way == "ahead" and v != ()):
        return ("side",)
    if product(product(done(book, u), a), done(book, v)) != m:
        return ("does",)
    return None


def judge_barring(book, way, a, m, value):
    """Return None if value, which may be anything, is a barring paper, or its first fault."""
    walk = walked(book)
    if not is_member_tuple(book[0], walk.numbers, value):
        return ("form",)
    told = [walk.numbers[member] for member in value]
    for k in range(1, len(told)):
        if told[k] <= told[k - 1]:
            return ("order", k)
    if walk.numbers[a] not in told:
        return ("start",)
    if walk.numbers[m] in told:
        return ("holds",)
    return step_fault(onward_in_way(walk, way), len(book[1]), told)


def is_member_tuple(n, numbers, value):
    """Tell whether value, which may be anything, is a tuple of members, whose numbers are a dict."""
    if not isinstance(value, tuple):
        return False
    return all([is_deed(n, member) and member in numbers for member in value])


def step_fault(onward, g, told):
    """Return the fault of the first member and letter that lead out of the numbers that are told, or None."""
    among = {number: True for number in told}
    for k, number in enumerate(told):
        # Steps behind and ahead by one letter stand g apart.
        letters = [step % g for step, led in enumerate(onward[number]) if led not in among]
        if len(letters) > 0:
            return ("step", k, min(letters))
    return None


def kinds(book, way):
    """Return the list of the kinds, tuples of members in the heap's order, by their first members."""
    walk = walked(book)
    found = mutual(onward_in_way(walk, way))
    return [tuple([walk.members[number] for number in numbers]) for numbers in found]


def mutual(onward):
    """Return the lists of the numbers from each of which steps lead to all of its list, by their first ones.

    onward has for each number the list of those to which one step leads.
    """
    lists = {}
    for number, mark in enumerate(mutual_marks(onward)):
        lists.setdefault(mark, []).append(number)
    return list(lists.values())


def mutual_marks(onward):
    """Return a mark for each number; two have the same one exactly if steps lead from each to the other one."""
    marks = [None] * len(onward)
    met = [None] * len(onward)
    rests = [list(steps) for steps in onward]
    # Those that are met and have no mark, and of these the ones from which no step to one met ahead is known.
    waiting, firsts = [], []
    for start in range(len(onward)):
        path = [start] if met[start] is None else []
        while len(path) > 0:
            here = path[-1]
            if met[here] is None:
                met[here] = len(waiting)
                waiting.append(here)
                firsts.append(here)
            rest = rests[here]
            while len(rest) > 0 and met[rest[-1]] is not None:
                other = rest.pop()
                while marks[other] is None and met[firsts[-1]] > met[other]:
                    firsts.pop()
            if len(rest) > 0:
                path.append(rest.pop())
                continue
            path.pop()
            if firsts[-1] == here:
                firsts.pop()
                while marks[here] is None:
                    marks[waiting.pop()] = here
    return marks
