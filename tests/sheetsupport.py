"""Sheets and texts for the tests, and a slow reader that goes by the forms of S2.3 as they are written there."""

import random
import re
from itertools import product as tuples_of

SHEET = (
    (3, ((1, 0, 2), (0, 0, 2), (2, 2, 2))), ("s", "z", "deed"),
    (("word", "w", (0, 0, 1, 0)), ("word", "none", ()), ("lead", "s", (2, 1, 0)), ("lot", "l", (0, 2)),
     ("lot", "sheet", ()), ("field", "f", (0, 2)), ("field", "field", ()), ("parting", "p", ((0, 2), (1,))),
     ("weights", "x", (3, -2, 0)), ("chances", "c", ((1, 3), (1, 2), (1, 6))), ("word", "places", (2,) * 40)))

# "N" and "NAME" are lexemes of a kind, other small words and signs these very lexemes, what stands here a form.
FORMS = {
    "SHEET": ["sheet { places N ; DEEDS PARTS }"],
    "DEEDS": ["", "DEED DEEDS"],
    "PARTS": ["", "PART PARTS"],
    "DEED": ["deed NAME NUMBERS ;"],
    "NUMBERS": ["", "N NUMBERS"],
    "NAMES": ["", "NAME NAMES"],
    "PART": ["word NAME ITEMS ;", "lead NAME NUMBERS ;", "lot NAME NAMES ;", "field NAME NUMBERS ;",
             "parting NAME ;", "parting NAME ROW MORES ;", "weights NAME INTEGERS ;", "chances NAME FRACTIONS ;"],
    "ITEMS": ["", "ITEM ITEMS"],
    "ITEM": ["NAME", "NAME ^ N", "( ITEMS )", "( ITEMS ) ^ N"],
    "ROW": ["N NUMBERS"],
    "MORES": ["", ", ROW MORES"],
    "INTEGERS": ["", "INTEGER INTEGERS"],
    "INTEGER": ["N", "- N"],
    "FRACTIONS": ["", "FRACTION FRACTIONS"],
    "FRACTION": ["INTEGER", "INTEGER / N"],
    "WORD": ["ITEMS"],
    "LINE": ["SHEET", "DEED", "PART", "turn NAME N N ;", "drop NAME ;", "undo ;", "redo ;", "mark NAME ;",
    "since NAME ;",
             "size ;", "held NAME ;", "fading ;", "turned ;", "faces ;", "ends ;", "times ;", "share NAME ;",
             "speeds NAME ;", "meet N N ;", "letters ;", "parts ;"],
}
LEXEME = re.compile(r"[ \n]*([a-z][a-z0-9]*|0|[1-9][0-9]*|[{}();,/^-])")


def slow_lexemes(text):
    """The lexemes with their places, and the place of what begins none, or None."""
    found = []
    at = 0
    while text[at:].strip(" \n"):
        match = LEXEME.match(text, at)
        start = at + len(text[at:]) - len(text[at:].lstrip(" \n"))
        if match is None or (match.group(1)[0].isalpha() and len(match.group(1)) > 12):
            return found, start
        found.append((match.group(1), start))
        at = match.end()
    return found, None


def unfolded(stacks):
    """All stacks that begin with a lexeme, or are empty, into which forms can be unfolded."""
    done = set()
    row = list(stacks)
    seen = set(row)
    while row:
        stack = row.pop()
        if not stack or stack[0] not in FORMS:
            done.add(stack)
            continue
        for told in FORMS[stack[0]]:
            new = tuple(told.split()) + stack[1:]
            if new not in seen:
                seen.add(new)
                row.append(new)
    return done


def fits(asked, lexeme):
    if asked == "N":
        return lexeme[0].isdigit()
    if asked == "NAME":
        return lexeme[0].isalpha()
    return asked == lexeme


def slow_wrong_place(form, text):
    """The first wrong place of a text for a form, or None."""
    found, wrong = slow_lexemes(text)
    stacks = unfolded({(form,)})
    for lexeme, place in found:
        stacks = unfolded({stack[1:] for stack in stacks if stack and fits(stack[0], lexeme)})
        if not stacks:
            return place
    if wrong is not None:
        return wrong
    return None if () in stacks else len(text)


def some_word(dice, g):
    word = ()
    while g and dice.random() < 0.7:
        word += (dice.randrange(g),) * dice.choice((1, 1, 2, 3, 11))
    return word


def some_lot(dice, g):
    return tuple(k for k in range(g) if dice.random() < 0.5)


def some_parting(dice, n):
    rows = []
    for p in range(n):
        if rows and dice.random() < 0.6:
            dice.choice(rows).append(p)
        else:
            rows.append([p])
    return tuple(tuple(row) for row in rows)


def some_chances(dice, g):
    parts = [dice.randint(1, 4) for _ in range(g)]
    return tuple(least_fraction(part, sum(parts)) for part in parts)


def least_fraction(p, q):
    for k in range(q, 1, -1):
        if p % k == 0 and q % k == 0:
            return (p // k, q // k)
    return (p, q)


def some_sheet(seed):
    """A sheet that hangs on the seed alone."""
    dice = random.Random(seed)
    n, g = dice.randint(1, 5), dice.randint(0, 4)
    book = (n, tuple(tuple(dice.randrange(n) for _ in range(n)) for _ in range(g)))
    names = tuple(dice.sample(["a", "b", "deed", "sheet", "word", "x0", "abcdefghijkl", "lot", "z9"], g))
    parts = []
    for name in dice.sample(["a", "b", "places", "chances", "p1", "q", "zzzzzzzzzzzz", "field"], dice.randint(0, 7)):
        sorts = ["word", "lead", "lot", "field", "parting", "weights"] + (["chances"] if g else [])
        sort = dice.choice(sorts)
        value = {
            "word": lambda: some_word(dice, g), "lot": lambda: some_lot(dice, g), "field": lambda: some_lot(dice, n),
            "lead": lambda: tuple(dice.randrange(n) for _ in range(n)), "parting": lambda: some_parting(dice, n),
            "weights": lambda: tuple(dice.randint(-20, 20) for _ in range(g)),
            "chances": lambda: some_chances(dice, g)}[sort]()
        parts.append((sort, name, value))
    return (book, names, tuple(parts))


def wheel_text(numbers):
    """Lexemes with blanks and line feeds between them where two would otherwise be one."""
    text = ""
    for at, lexeme in enumerate(numbers):
        text += (" ", "\n", "  ", " \n ")[at % 4] if at % 3 == 0 or (text and text[-1].isalnum()) else ""
        text += lexeme
    return text


def short_texts(signs, longest):
    for length in range(longest + 1):
        for told in tuples_of(signs, repeat=length):
            yield "".join(told)
