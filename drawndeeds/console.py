"""Consoles: lines that are read for a desk, and what is answered to them."""

from drawndeeds.errors import BadAct, BadAsk, BadText, NothingDone, TooMany, UnknownName
from drawndeeds.forms import line_form
from drawndeeds.lexemes import scanned
from drawndeeds.sheettexts import check_body, fraction_text, letters_by_name, number_texts
from drawndeeds.sheettexts import told_numbers, told_sheet, told_value


def undo_answer(desk, told):
    """Take the last act back."""
    desk.undo()
    return "done"


def redo_answer(desk, told):
    """Do the act again that has been taken back last."""
    desk.redo()
    return "done"


def mark_answer(desk, told):
    """Set a mark."""
    desk.mark(told[0])
    return "done"


def since_answer(desk, told):
    """Return the answer that tells how many acts more are done than at a mark."""
    try:
        return str(desk.since(told[0]))
    except UnknownName:
        return "no mark"


def size_answer(desk, told):
    """Return the answer that tells the number of members."""
    return str(desk.size())


def held_answer(desk, told):
    """Return the answer that tells held of a word part."""
    return str(desk.held(told[0]))


def fading_answer(desk, told):
    """Return the answer that tells whether the book is fading."""
    return yes_or_no(desk.is_fading())


def turned_answer(desk, told):
    """Return the answer that tells whether the book has turned times."""
    return yes_or_no(desk.is_turned())


def yes_or_no(holds):
    """Return the answer that tells whether something is so."""
    return "yes" if holds else "no"


def faces_answer(desk, told):
    """Return the answer that tells all faces."""
    return listed([letters_text(desk, lot) for lot in desk.faces()])


def ends_answer(desk, told):
    """Return the answer that tells all ends."""
    return listed([lot_text(number_texts(lot)) for lot in desk.ends()])


def times_answer(desk, told):
    """Return the answer that tells the times, or that there are none."""
    pairs = desk.times()
    if pairs is None:
        return "none"
    return listed([pair_text(letters_text(desk, lot), number) for lot, number in pairs])


def share_answer(desk, told):
    """Return the answer that tells the share of a part."""
    return " ".join([fraction_text(fraction) for fraction in desk.share(told[0])])


def speeds_answer(desk, told):
    """Return the answer that tells the speeds of a part."""
    return listed([pair_text(str(speed), number) for speed, number in desk.speeds(told[0])])


def meet_answer(desk, told):
    """Return the answer that tells the meeting of two places."""
    word = desk.meeting(int(told[0]), int(told[1]))
    if word is None:
        return "never"
    return " ".join(letter_names(desk, word))


def letters_answer(desk, told):
    """Return the answer that tells the names of the letters."""
    return " ".join(list(desk.sheet()[1]))


def parts_answer(desk, told):
    """Return the answer that tells the names of the parts."""
    return " ".join([name for _, name, _ in desk.sheet()[2]])


def letter_names(desk, letters):
    """Return the list of the names of some letters."""
    names = desk.sheet()[1]
    return [names[letter] for letter in letters]


def letters_text(desk, lot):
    """Return the text of a lot of letters."""
    return lot_text(letter_names(desk, lot))


def lot_text(texts):
    """Return the text of a lot by the texts of its members."""
    return " ".join(texts) if len(texts) > 0 else "-"


def pair_text(text, number):
    """Return the text of a pair of what is told by a text, and a number."""
    return text + " = " + str(number)


def listed(texts):
    """Return some texts with a comma and a blank between two."""
    return ", ".join(texts)


ANSWERS = {
    "undo": undo_answer,
    "redo": redo_answer,
    "mark": mark_answer,
    "since": since_answer,
    "size": size_answer,
    "held": held_answer,
    "fading": fading_answer,
    "turned": turned_answer,
    "faces": faces_answer,
    "ends": ends_answer,
    "times": times_answer,
    "share": share_answer,
    "speeds": speeds_answer,
    "meet": meet_answer,
    "letters": letters_answer,
    "parts": parts_answer,
}


def told_act(desk, word, body):
    """Return the act that the lexemes behind the word of a line tell; raises UnknownName(name) or TooMany()."""
    name = body[0][1]
    if word == "deed":
        return ("deed", name, told_numbers(body[1:]))
    if word == "turn":
        return ("turn", name) + told_numbers(body[1:])
    if word == "drop":
        return ("drop", name)
    letters = letters_by_name(desk.sheet()[1])
    check_body(letters, word, body[1:])
    return ("put", (word, name, told_value(letters, word, body[1:])))


def answer_to(desk, rows):
    """Do or ask what the rows of a line's lexemes tell, and return the answer; raises the errors of what is refused."""
    if rows[0][1] == "sheet":
        desk.do(("sheet", told_sheet(rows)))
        return "done"
    word, body = line_form(rows)
    if word in ANSWERS:
        find_answer = ANSWERS[word]
        return find_answer(desk, [lexeme for _, lexeme, _ in body])
    desk.do(told_act(desk, word, body))
    return "done"


class Console:
    """What reads lines for a desk."""

    def __init__(self, desk):
        self._desk = desk

    def answer(self, line):
        """Do and ask what a line tells, and return the answer."""
        try:
            return answer_to(self._desk, scanned(line))
        except BadText as text_error:
            return "no " + str(text_error.place)
        except UnknownName:
            return "no letter"
        except TooMany:
            return "no great"
        except BadAct as act_error:
            return "no " + act_error.word
        except BadAsk as ask_error:
            return "no " + ask_error.word
        except NothingDone:
            return "no nothing"
