"""Lexemes: the names, numerals and signs of which texts consist."""

from drawndeeds.errors import BadText
from drawndeeds.words import LONGEST_NAME, is_figure, is_small_letter

SIGNS = "{}();,/-^"


def lexemes(text):
    """Return the list of the lexemes of a text; raises BadText(place) where none begins."""
    rows = scanned(text)
    kind, _, place = rows.pop()
    if kind == "wrong":
        raise BadText(place)
    return rows


def scanned(text):
    """Return the list of the lexemes of a text, with one more that tells where they end.

    That one is ("end", "", length of the text), or ("wrong", "", place) if no lexeme begins at a place.
    """
    rows = []
    at = 0
    while at < len(text):
        if text[at] in " \n":
            at += 1
            continue
        kind, end = lexeme_at(text, at)
        if kind == "wrong":
            break
        rows.append((kind, text[at:end], at))
        at = end
    if at < len(text):
        rows.append(("wrong", "", at))
    else:
        rows.append(("end", "", at))
    return rows


def lexeme_at(text, at):
    """Return the kind of the lexeme that begins at a place, "wrong" if none does, and where it ends."""
    sign = text[at]
    if sign in SIGNS:
        return "sign", at + 1
    if sign == "0":
        return "numeral", at + 1
    end = at + 1
    if is_figure(sign):
        while end < len(text) and is_figure(text[end]):
            end += 1
        return "numeral", end
    if not is_small_letter(sign):
        return "wrong", at
    while end < len(text) and (is_small_letter(text[end]) or is_figure(text[end])):
        end += 1
    if end - at > LONGEST_NAME:
        return "wrong", at
    return "name", end
