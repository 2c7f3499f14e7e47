"""Lexemes: the names, numerals and signs of which texts consist."""

from drawndeeds.errors import BadText
from drawndeeds.words import LONGEST_NAME

SIGNS = "{}();,/-^"
FIGURES = "0123456789"
LETTERS_AND_FIGURES = "abcdefghijklmnopqrstuvwxyz0123456789"
GAPS = " \n"
# Texts that are not longer than this are read sign by sign; longer ones are taken to pieces first.
SHORT = 300


def lexemes(text):
    """Return the list of the lexemes of a text; raises BadText(place) where none begins."""
    rows = parted(text) if len(text) <= SHORT else placed(text)
    if len(rows) > 0 and rows[-1][0] == "wrong":
        raise BadText(rows[-1][2])
    return rows


def scanned(text):
    """Return the list of the lexemes of a text as triples, with one more that tells where they end.

    That one is ("end", "", text), or ("wrong", "", text) if no lexeme begins behind the last one. The third member
    of a lexeme is its place within some piece of the text; place_of tells the place in the text.
    """
    if len(text) <= SHORT:
        rows = parted(text)
    else:
        pieces, parts = pieces_and_parts(text)
        rows = [row for piece in pieces for row in parts[piece]]
    if len(rows) > 0 and rows[-1][0] == "wrong":
        rows[-1] = ("wrong", "", text)
    else:
        rows.append(("end", "", text))
    return rows


def placed(text):
    """Return the list of the lexemes of a long text, each with its place, as parted does."""
    # A tab is no gap, and begins a lexeme as little as ? does.
    text = text.replace("\t", "?")
    pieces, parts = pieces_and_parts(text)
    found = []
    place = 0
    for piece in pieces:
        place = text.find(piece, place)
        for kind, lexeme, at in parts[piece]:
            found.append((kind, lexeme, place + at))
        place += len(piece)
    return found


def pieces_and_parts(text):
    """Return the list of the pieces of a long text, and the dict of the lexemes of each, as parted tells them.

    Pieces are signs, and what stands without a gap between gaps and signs. The list ends with the first one in
    which something is wrong.
    """
    for sign in SIGNS:
        if sign in text:
            text = text.replace(sign, " " + sign + " ")
    pieces = text.replace("\t", "?").split()
    parts = {}
    for k, piece in enumerate(pieces):
        if piece not in parts:
            if piece.isdigit() and piece[0] != "0":
                parts[piece] = [("numeral", piece, 0)]
            else:
                parts[piece] = parted(piece)
            if parts[piece][-1][0] == "wrong":
                return pieces[:k + 1], parts
    return pieces, parts


def parted(text):
    """Return the list of the lexemes of a short text, or of a piece, each as a triple (kind, lexeme, place).

    Where none begins, the last one is of the kind "wrong".
    """
    found = []
    at, many = 0, len(text)
    while at < many:
        start, sign = at, text[at]
        at += 1
        if sign in GAPS:
            continue
        if sign in SIGNS:
            found.append(("sign", sign, start))
        elif sign == "0":
            found.append(("numeral", sign, start))
        elif sign in FIGURES:
            while at < many and text[at] in FIGURES:
                at += 1
            found.append(("numeral", text[start:at], start))
        else:
            while at < many and text[at] in LETTERS_AND_FIGURES:
                at += 1
            if sign not in LETTERS_AND_FIGURES or at - start > LONGEST_NAME:
                found.append(("wrong", "", start))
                return found
            found.append(("name", text[start:at], start))
    return found


def place_of(rows, at):
    """Return the place of the lexeme number at of the rows that scanned returns, or where they end.

    Places are asked for only where a text is wrong, so they are looked for only then.
    """
    text = rows[-1][2]
    place = 0
    for _, lexeme, _ in rows[:at]:
        place = text.find(lexeme, place) + len(lexeme)
    return len(text) - len(text[place:].lstrip(GAPS))
