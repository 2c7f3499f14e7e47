"""Comings: which members are made of which, behind, ahead and around, with papers for it and against it."""

from drawndeeds.books import done, is_deed, is_word_pair, product
from drawndeeds.heaps import grown, left_steps, right_steps


def coming_papers(book, way, a):
    """Return the dict that has for the number of each member that comes of a member a coming paper."""
    right, left = steps_of_way(book, way)
    start = grown(book)[2][a]
    papers = {start: ((), ())}
    row = [start]
    at = 0
    while at < len(row):
        here = row[at]
        at += 1
        u, v = papers[here]
        found = [(number, (u, v + (letter,))) for letter, number in enumerate(right[here])]
        found += [(number, ((letter,) + u, v)) for letter, number in enumerate(left[here])]
        for number, paper in found:
            if number not in papers:
                papers[number] = paper
                row.append(number)
    return papers


def steps_of_way(book, way):
    """Return the lists of the right and of the left steps that are taken in a way, none being []."""
    right = right_steps(book)
    left = left_steps(book)
    if way == "behind":
        left = [[] for _ in left]
    if way == "ahead":
        right = [[] for _ in right]
    return right, left


def coming_paper(book, way, a, m):
    """Return a coming paper, or None if m does not come of a in this way."""
    return coming_papers(book, way, a).get(grown(book)[2][m])


def barring_paper(book, way, a, m):
    """Return all members that come of a in this way, in the heap's order, or None if m does."""
    members, _, numbers = grown(book)
    papers = coming_papers(book, way, a)
    if numbers[m] in papers:
        return None
    return tuple([members[number] for number in sorted(papers)])


def judge_coming(book, way, a, m, value):
    """Return None if value, which may be anything, is a coming paper, or its first fault."""
    if not is_word_pair(len(book[1]), value):
        return ("form",)
    u, v = value
    if (way == "behind" and u != ()) or (way == "ahead" and v != ()):
        return ("side",)
    if product(product(done(book, u), a), done(book, v)) != m:
        return ("does",)
    return None


def judge_barring(book, way, a, m, value):
    """Return None if value, which may be anything, is a barring paper, or its first fault."""
    numbers = grown(book)[2]
    if not is_member_tuple(book[0], numbers, value):
        return ("form",)
    told = [numbers[member] for member in value]
    for k in range(1, len(told)):
        if told[k] <= told[k - 1]:
            return ("order", k)
    if numbers[a] not in told:
        return ("start",)
    if numbers[m] in told:
        return ("holds",)
    return step_fault(book, way, told)


def is_member_tuple(n, numbers, value):
    """Tell whether value, which may be anything, is a tuple of members, whose numbers are a dict."""
    if not isinstance(value, tuple):
        return False
    return all([is_deed(n, member) and member in numbers for member in value])


def step_fault(book, way, told):
    """Return the fault of the first member and letter that lead out of the numbers that are told, or None."""
    right, left = steps_of_way(book, way)
    among = {number: True for number in told}
    for k, number in enumerate(told):
        for letter in range(len(book[1])):
            steps = right[number][letter:letter + 1] + left[number][letter:letter + 1]
            if not all([step in among for step in steps]):
                return ("step", k, letter)
    return None


def kinds(book, way):
    """Return the list of the kinds, tuples of members in the heap's order, by their first members."""
    members = grown(book)[0]
    right, left = steps_of_way(book, way)
    found = mutual([behind + ahead for behind, ahead in zip(right, left)])
    return [tuple([members[number] for number in numbers]) for numbers in found]


def mutual(onward):
    """Return the lists of the numbers from each of which steps lead to all of its list, by their first ones.

    onward has for each number the list of those to which one step leads.
    """
    lists = {}
    for number, mark in enumerate(mutual_marks(onward)):
        lists.setdefault(mark, []).append(number)
    return list(lists.values())


def mutual_marks(onward):
    """Return a mark for each number; two have the same one exactly if steps lead from each to the other one."""
    marks = [None] * len(onward)
    met = [None] * len(onward)
    rests = [list(steps) for steps in onward]
    # Those that are met and have no mark, and of these the ones from which no step to one met ahead is known.
    waiting, firsts = [], []
    for start in range(len(onward)):
        path = [start] if met[start] is None else []
        while len(path) > 0:
            here = path[-1]
            if met[here] is None:
                met[here] = len(waiting)
                waiting.append(here)
                firsts.append(here)
            rest = rests[here]
            while len(rest) > 0 and met[rest[-1]] is not None:
                other = rest.pop()
                while marks[other] is None and met[firsts[-1]] > met[other]:
                    firsts.pop()
            if len(rest) > 0:
                path.append(rest.pop())
                continue
            path.pop()
            if firsts[-1] == here:
                firsts.pop()
                while marks[here] is None:
                    marks[waiting.pop()] = here
    return marks


def numbers_from(onward, start):
    """Return the dict that has all numbers to which steps lead from one."""
    seen = {start: True}
    row = [start]
    at = 0
    while at < len(row):
        steps = onward[row[at]]
        at += 1
        for number in steps:
            if number not in seen:
                seen[number] = True
                row.append(number)
    return seen
