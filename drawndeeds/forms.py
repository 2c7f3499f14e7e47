"""The forms of texts: where a text goes wrong, and which lexemes belong together.

Each function goes through the rows that lexemes.scanned returns. Their last row is of no kind that a form asks
for, so no function comes behind it, and its place is the one where a text ends too early or has no lexeme.
"""

from drawndeeds.errors import BadText
from drawndeeds.lexemes import place_of
from drawndeeds.sheets import SORTS

# What stands between the word with which a line of a console begins and the sign that ends it.
LINE_KINDS = {
    "turn": ("name", "numeral", "numeral"),
    "drop": ("name",),
    "undo": (),
    "redo": (),
    "mark": ("name",),
    "since": ("name",),
    "size": (),
    "held": ("name",),
    "fading": (),
    "turned": (),
    "faces": (),
    "ends": (),
    "times": (),
    "share": ("name",),
    "speeds": ("name",),
    "meet": ("numeral", "numeral"),
    "letters": (),
    "parts": (),
}


def behind_lexeme(rows, at, lexeme):
    """Return the place behind this very lexeme; raises BadText(place) if another one stands there."""
    if rows[at][1] != lexeme:
        raise BadText(place_of(rows, at))
    return at + 1


def behind_kind(rows, at, kind):
    """Return the place behind a lexeme of a kind; raises BadText(place) if another one stands there."""
    if rows[at][0] != kind:
        raise BadText(place_of(rows, at))
    return at + 1


def check_end(rows, at):
    """Raise BadText(place) if the text goes on."""
    behind_kind(rows, at, "end")


def behind_all(rows, at, kind):
    """Return the place behind all lexemes of a kind that stand there."""
    while rows[at][0] == kind:
        at += 1
    return at


def behind_numerals(rows, at):
    """Return the place behind N*."""
    return behind_all(rows, at, "numeral")


def behind_names(rows, at):
    """Return the place behind NAME*."""
    return behind_all(rows, at, "name")


def behind_items(rows, at):
    """Return the place behind ITEM*."""
    depth = 0
    while True:
        kind, lexeme, _ = rows[at]
        if kind == "name" or (lexeme == ")" and depth > 0):
            if lexeme == ")":
                depth -= 1
            at += 1
            if rows[at][1] == "^":
                at = behind_kind(rows, at + 1, "numeral")
        elif lexeme == "(":
            depth += 1
            at += 1
        elif depth > 0:
            raise BadText(place_of(rows, at))
        else:
            return at


def behind_rows(rows, at):
    """Return the place behind [ROW MORE*]."""
    if rows[at][0] != "numeral":
        return at
    at = behind_numerals(rows, at)
    while rows[at][1] == ",":
        at = behind_numerals(rows, behind_kind(rows, at + 1, "numeral"))
    return at


def behind_integers(rows, at):
    """Return the place behind INTEGER*."""
    while rows[at][0] == "numeral" or rows[at][1] == "-":
        at = behind_integer(rows, at)
    return at


def behind_integer(rows, at):
    """Return the place behind [-] N."""
    if rows[at][1] == "-":
        at += 1
    return behind_kind(rows, at, "numeral")


def behind_fractions(rows, at):
    """Return the place behind FRACTION*."""
    while rows[at][0] == "numeral" or rows[at][1] == "-":
        at = behind_integer(rows, at)
        if rows[at][1] == "/":
            at = behind_kind(rows, at + 1, "numeral")
    return at


BEHIND_BODIES = {
    "deed": behind_numerals,
    "word": behind_items,
    "lead": behind_numerals,
    "lot": behind_names,
    "field": behind_numerals,
    "parting": behind_rows,
    "weights": behind_integers,
    "chances": behind_fractions,
}


def read_row(rows, at):
    """Return what stands from a place on and begins with a word of BEHIND_BODIES, and the place behind.

    It is a triple: the word with which it begins, its name, and the list of the lexemes behind that.
    """
    word = rows[at][1]
    start = behind_kind(rows, at + 1, "name")
    behind_body = BEHIND_BODIES[word]
    end = behind_body(rows, start)
    return (word, rows[start - 1][1], rows[start:end]), behind_lexeme(rows, end, ";")


def read_rows(rows, at, words):
    """Return the list of what stands from a place on and begins with one of the words, and the place behind."""
    found = []
    while rows[at][1] in words:
        row, at = read_row(rows, at)
        found.append(row)
    return found, at


def sheet_form(rows):
    """Return the numeral of the places, the list of the deeds and that of the parts of a SHEET.

    Raises BadText(place) with the first wrong place.
    """
    at = behind_lexeme(rows, 0, "sheet")
    at = behind_lexeme(rows, at, "{")
    at = behind_lexeme(rows, at, "places")
    numeral = rows[at][1]
    at = behind_kind(rows, at, "numeral")
    at = behind_lexeme(rows, at, ";")
    deeds, at = read_rows(rows, at, ("deed",))
    parts, at = read_rows(rows, at, SORTS)
    at = behind_lexeme(rows, at, "}")
    check_end(rows, at)
    return numeral, deeds, parts


def word_form(rows):
    """Return the lexemes of a WORD by itself; raises BadText(place) with the first wrong place."""
    at = behind_items(rows, 0)
    check_end(rows, at)
    return rows[:at]


def line_form(rows):
    """Return the word with which a line of a console begins, and the lexemes between that and its end.

    The line is none that has a SHEET. Raises BadText(place) with the first wrong place.
    """
    word = rows[0][1]
    if word in BEHIND_BODIES:
        _, at = read_row(rows, 0)
    elif word in LINE_KINDS:
        at = 1
        for kind in LINE_KINDS[word]:
            at = behind_kind(rows, at, kind)
        at = behind_lexeme(rows, at, ";")
    else:
        raise BadText(place_of(rows, 0))
    check_end(rows, at)
    return word, rows[1:at - 1]
