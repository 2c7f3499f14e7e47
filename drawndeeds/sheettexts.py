"""Texts of sheets and of words: read, and written."""

from drawndeeds.errors import TooMany, UnknownName
from drawndeeds.forms import sheet_form, word_form
from drawndeeds.lexemes import scanned
from drawndeeds.sheets import check_sheet

MOST_LETTERS = 10000


def read_sheet(text):
    """Return the sheet that a text tells.

    Raises BadText(place), UnknownName(name), TooMany() or BadTree(path), in this sequence.
    """
    sheet = told_sheet(scanned(text))
    check_sheet(sheet)
    return sheet


def told_sheet(rows):
    """Return what a SHEET tells, by the rows of its lexemes, which may be no sheet.

    Raises BadText(place), UnknownName(name) or TooMany(), in this sequence.
    """
    numeral, deeds, parts = sheet_form(rows)
    names = tuple([name for _, name, _ in deeds])
    letters = letters_by_name(names)
    for sort, _, body in parts:
        check_body(letters, sort, body)
    told_deeds = tuple([told_numbers(body) for _, _, body in deeds])
    told_parts = tuple([(sort, name, told_value(letters, sort, body)) for sort, name, body in parts])
    return ((int(numeral), told_deeds), names, told_parts)


def read_word(names, text):
    """Return the word that a text tells; raises BadText(place), UnknownName(name) or TooMany()."""
    body = word_form(scanned(text))
    letters = letters_by_name(names)
    check_names(letters, body)
    return told_word(letters, body)


def letters_by_name(names):
    """Return the dict of the letters by their names."""
    return {name: letter for letter, name in enumerate(names)}


def check_names(letters, body):
    """Raise UnknownName(name) with the first name among lexemes that means no letter."""
    for kind, lexeme, _ in body:
        if kind == "name" and lexeme not in letters:
            raise UnknownName(lexeme)


def check_body(letters, sort, body):
    """Raise UnknownName(name) with the first name among the lexemes of a part of a sort that means no letter."""
    if sort in ("word", "lot"):
        check_names(letters, body)


def told_value(letters, sort, body):
    """Return the value that the lexemes of a part of a sort tell."""
    if sort == "word":
        return told_word(letters, body)
    if sort == "lot":
        return tuple([letters[lexeme] for _, lexeme, _ in body])
    if sort == "parting":
        return told_parting(body)
    if sort == "weights":
        return tuple([p for p, _ in told_fractions(body)])
    if sort == "chances":
        return told_fractions(body)
    return told_numbers(body)


def told_numbers(body):
    """Return the tuple of the numbers that numerals tell."""
    return tuple([int(lexeme) for _, lexeme, _ in body])


def told_parting(body):
    """Return the tuple of the tuples of numbers that rows of numerals tell."""
    if len(body) == 0:
        return ()
    rows = [[]]
    for _, lexeme, _ in body:
        if lexeme == ",":
            rows.append([])
        else:
            rows[-1].append(int(lexeme))
    return tuple([tuple(row) for row in rows])


def told_fractions(body):
    """Return the tuple of the pairs that fractions tell, as they stand."""
    pairs = []
    sign = 1
    under = False
    for _, lexeme, _ in body:
        if lexeme == "-":
            sign = -1
        elif lexeme == "/":
            under = True
        elif under:
            pairs[-1] = (pairs[-1][0], int(lexeme))
            under = False
        else:
            pairs.append((sign * int(lexeme), 1))
            sign = 1
    return tuple(pairs)


def told_word(letters, body):
    """Return the word that items tell; raises TooMany() if it has more than 10,000 letters."""
    rows = body + [("end", "", 0)]
    # What is told within brackets that are open, and outside of them; None stands for too much.
    told, outside = [], []
    at = 0
    while at < len(body):
        lexeme = rows[at][1]
        at += 1
        if lexeme == "(":
            outside.append(told)
            told = []
            continue
        times = 1
        if rows[at][1] == "^":
            times = int(rows[at + 1][1])
            at += 2
        if lexeme == ")":
            told = with_item(outside.pop(), told, times)
        elif times == 1 and told is not None and len(told) < MOST_LETTERS:
            told.append(letters[lexeme])
        else:
            told = with_item(told, [letters[lexeme]], times)
    if told is None:
        raise TooMany()
    return tuple(told)


def with_item(told, item, times):
    """Put the letters of an item, so many times, behind what is told, and return that; None if these are too many."""
    # Too much may be done 0 times, and nothing more often than any list may be long.
    if times == 0 or item == []:
        return told
    if told is None or item is None or len(told) + len(item) * times > MOST_LETTERS:
        return None
    told.extend(item * times)
    return told


def sheet_text(sheet):
    """Return the written text of a sheet."""
    (n, deeds), names, parts = sheet
    rows = ["sheet {", "places " + str(n) + ";"]
    for name, deed in zip(names, deeds):
        rows.append(row_text(["deed", name] + number_texts(deed)))
    for sort, name, value in parts:
        rows.append(row_text([sort, name] + value_texts(names, sort, value)))
    rows.append("}")
    return "".join([row + "\n" for row in rows])


def row_text(pieces):
    """Return a row of pieces with a blank between two, and the sign that ends it."""
    return " ".join(pieces) + ";"


def value_texts(names, sort, value):
    """Return the list of the pieces between which blanks stand in the text of a part's value."""
    if sort == "word":
        return run_texts(names, value)
    if sort == "lot":
        return [names[letter] for letter in value]
    if sort == "chances":
        return [fraction_text(fraction) for fraction in value]
    if sort == "parting":
        return [", ".join([" ".join(number_texts(row)) for row in value])]
    return number_texts(value)


def number_texts(numbers):
    """Return the list of the texts of integers."""
    return [str(number) for number in numbers]


def fraction_text(fraction):
    """Return the text of a fraction."""
    p, q = fraction
    if q == 1:
        return str(p)
    return str(p) + "/" + str(q)


def run_texts(names, word):
    """Return the list of the texts of a word's runs."""
    found = []
    start = 0
    for at in range(1, len(word) + 1):
        if at == len(word) or word[at] != word[start]:
            found.append(run_text(names[word[start]], at - start))
            start = at
    return found


def run_text(name, times):
    """Return the text of a run of a letter."""
    if times == 1:
        return name
    return name + " ^ " + str(times)


def word_text(names, word):
    """Return the written text of a word by itself."""
    return " ".join(run_texts(names, word))
