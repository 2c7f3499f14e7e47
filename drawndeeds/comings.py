"""Comings: which members are made of which, behind, ahead and around, with papers for it and against it."""

from drawndeeds.books import done, is_deed, is_word, product
from drawndeeds.heaps import grown, left_steps, right_steps


def coming_papers(book, way, a):
    """Return the dict that has for the number of each member that comes of a member a coming paper."""
    right, left = steps_of_way(book, way)
    start = grown(book)[2][a]
    papers = {start: ((), ())}
    row = [start]
    at = 0
    while at < len(row):
        here = row[at]
        at += 1
        u, v = papers[here]
        found = [(number, (u, v + (letter,))) for letter, number in enumerate(right[here])]
        found += [(number, ((letter,) + u, v)) for letter, number in enumerate(left[here])]
        for number, paper in found:
            if number not in papers:
                papers[number] = paper
                row.append(number)
    return papers


def steps_of_way(book, way):
    """Return the lists of the right and of the left steps that are taken in a way, none being []."""
    right = right_steps(book)
    left = left_steps(book)
    if way == "behind":
        left = [[] for _ in left]
    if way == "ahead":
        right = [[] for _ in right]
    return right, left


def coming_paper(book, way, a, m):
    """Return a coming paper, or None if m does not come of a in this way."""
    return coming_papers(book, way, a).get(grown(book)[2][m])


def barring_paper(book, way, a, m):
    """Return all members that come of a in this way, in the heap's order, or None if m does."""
    members, _, numbers = grown(book)
    papers = coming_papers(book, way, a)
    if numbers[m] in papers:
        return None
    return tuple([members[number] for number in sorted(papers)])


def judge_coming(book, way, a, m, value):
    """Return None if value, which may be anything, is a coming paper, or its first fault."""
    if not isinstance(value, tuple) or len(value) != 2:
        return ("form",)
    u, v = value
    g = len(book[1])
    if not is_word(g, u) or not is_word(g, v):
        return ("form",)
    if (way == "behind" and u != ()) or (way == "ahead" and v != ()):
        return ("side",)
    if product(product(done(book, u), a), done(book, v)) != m:
        return ("does",)
    return None


def judge_barring(book, way, a, m, value):
    """Return None if value, which may be anything, is a barring paper, or its first fault."""
    numbers = grown(book)[2]
    if not is_member_tuple(book[0], numbers, value):
        return ("form",)
    told = [numbers[member] for member in value]
    for k in range(1, len(told)):
        if told[k] <= told[k - 1]:
            return ("order", k)
    if numbers[a] not in told:
        return ("start",)
    if numbers[m] in told:
        return ("holds",)
    return step_fault(book, way, told)


def is_member_tuple(n, numbers, value):
    """Tell whether value, which may be anything, is a tuple of members, whose numbers are a dict."""
    if not isinstance(value, tuple):
        return False
    return all([is_deed(n, member) and member in numbers for member in value])


def step_fault(book, way, told):
    """Return the fault of the first member and letter that lead out of the numbers that are told, or None."""
    right, left = steps_of_way(book, way)
    among = {number: True for number in told}
    for k, number in enumerate(told):
        for letter in range(len(book[1])):
            steps = right[number][letter:letter + 1] + left[number][letter:letter + 1]
            if not all([step in among for step in steps]):
                return ("step", k, letter)
    return None


def kinds(book, way):
    """Return the list of the kinds, tuples of members in the heap's order, by their first members."""
    members = grown(book)[0]
    comings = numbers_that_come(book, way)
    placed = {}
    found = []
    for number in range(len(members)):
        if number not in placed:
            kind = [other for other in sorted(comings[number]) if number in comings[other]]
            for other in kind:
                placed[other] = True
            found.append(tuple([members[other] for other in kind]))
    return found


def numbers_that_come(book, way):
    """Return for each member the dict that has the numbers of all members that come of it."""
    right, left = steps_of_way(book, way)
    onward = [sorted(set(behind + ahead)) for behind, ahead in zip(right, left)]
    return [numbers_from(onward, start) for start in range(len(onward))]


def numbers_from(onward, start):
    """Return the dict that has all numbers to which steps lead from one."""
    seen = {start: True}
    row = [start]
    at = 0
    while at < len(row):
        steps = onward[row[at]]
        at += 1
        for number in steps:
            if number not in seen:
                seen[number] = True
                row.append(number)
    return seen
