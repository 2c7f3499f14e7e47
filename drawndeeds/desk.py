"""Desks: a sheet that is changed by acts, and what is asked about its book."""

from drawndeeds.atweights import speeds_by
from drawndeeds.books import is_deed
from drawndeeds.ends import ends
from drawndeeds.errors import BadAct, BadAsk, NothingDone, UnknownName
from drawndeeds.faces import all_faces
from drawndeeds.fading import first_anew
from drawndeeds.heaps import walked
from drawndeeds.letterlots import MOST_MEMBERS, held_number, held_numbers
from drawndeeds.meeting import first_meeting
from drawndeeds.rearranged import first_rearranged
from drawndeeds.resting import end_share
from drawndeeds.sheets import part_fault, part_names, place_among, placed_at, sheet_fault, with_right_part
from drawndeeds.sheets import without_part
from drawndeeds.speeds import times_of
from drawndeeds.words import is_below, is_name

MOST_PLACES = 8
MOST_LETTERS = 6
MOST_PARTS = 30


def sheet_word(sheet, act):
    """Return the word with which a sheet cannot be laid on a desk, or None."""
    if sheet_fault(act[1]) is not None:
        return "sheet"
    n, deeds = act[1][0]
    if n > MOST_PLACES or len(deeds) > MOST_LETTERS:
        return "many"
    return None


def deed_word(sheet, act):
    """Return the word with which a deed cannot be given to a name, or None."""
    (n, deeds), names, parts = sheet
    if not is_name(act[1]):
        return "name"
    if not is_deed(n, act[2]):
        return "deed"
    if act[1] in names:
        return None
    if len(deeds) == MOST_LETTERS:
        return "many"
    # One letter more leaves no other parts without a number that they should have.
    if any([sort in ("weights", "chances") for sort, _, _ in parts]):
        return "fit"
    return None


def turn_word(sheet, act):
    """Return the word with which a letter cannot be made to lead a place to another one, or None."""
    if act[1] not in sheet[1]:
        return "name"
    if not is_below(act[2], sheet[0][0]) or not is_below(act[3], sheet[0][0]):
        return "place"
    return None


def put_word(sheet, act):
    """Return the word with which a part cannot be put into a sheet, or None."""
    if part_fault(sheet[0], {}, act[1]) is not None:
        return "part"
    if len(sheet[2]) >= MOST_PARTS and act[1][1] not in part_names(sheet):
        return "many"
    return None


def drop_word(sheet, act):
    """Return the word with which a part cannot go, or None."""
    return "name" if act[1] not in part_names(sheet) else None


def with_sheet(sheet, act):
    """Return the sheet behind an act of sheet."""
    return act[1]


def with_deed(sheet, act):
    """Return the sheet behind an act of deed."""
    (n, deeds), names, parts = sheet
    at = place_among(names, act[1])
    return ((n, placed_at(deeds, at, act[2])), placed_at(names, at, act[1]), parts)


def with_turn(sheet, act):
    """Return the sheet behind an act of turn."""
    (n, deeds), names, parts = sheet
    at = place_among(names, act[1])
    return ((n, placed_at(deeds, at, placed_at(deeds[at], act[2], act[3]))), names, parts)


def with_put(sheet, act):
    """Return the sheet behind an act of put."""
    return with_right_part(sheet, act[1])


def with_drop(sheet, act):
    """Return the sheet behind an act of drop."""
    return without_part(sheet, act[1])


ACT_SIZES = {"sheet": 2, "deed": 3, "turn": 4, "put": 2, "drop": 2}
ACT_WORDS = {"sheet": sheet_word, "deed": deed_word, "turn": turn_word, "put": put_word, "drop": drop_word}
ACT_SHEETS = {"sheet": with_sheet, "deed": with_deed, "turn": with_turn, "put": with_put, "drop": with_drop}


def is_act_form(value):
    """Tell whether value, which may be anything, is a tuple that begins with the word of an act, with its members."""
    if not isinstance(value, tuple) or len(value) == 0 or not isinstance(value[0], str):
        return False
    return value[0] in ACT_SIZES and len(value) == ACT_SIZES[value[0]]


def size_of(book, walk):
    """Return how many members a walk has."""
    return len(walk.members)


def times_by(book, walk):
    """Return the times of the book of a walk, or None if it has none."""
    return times_of(walk)


def faces_of(book, walk):
    """Return the list of the lots of all faces of a book."""
    return all_faces(book)


def fades(book, walk):
    """Tell whether the book of a walk is fading."""
    return first_anew(walk) is None


def has_turned(book, walk):
    """Tell whether the book of a walk has turned times."""
    return first_rearranged(walk, held_numbers(walk)) is None


QUESTIONS = {"size": size_of, "times": times_by, "faces": faces_of, "fading": fades, "turned": has_turned}


class Desk:
    """A sheet, the acts that have made it what it is, and what has been worked out about its books."""

    def __init__(self):
        # Behind the first sheet stands the one that each act has made.
        self._sheets = [((1, ()), (), ())]
        self._acts = []
        # What has been taken back and can be done again, the next one last: pairs of an act and its sheet.
        self._undone = []
        self._marks = {}
        # For each book that has been asked about the answers by their questions; and the last book with its walk.
        self._known = {}
        self._walked = None

    def sheet(self):
        """Return the sheet."""
        return self._sheets[-1]

    def act_word(self, act):
        """Return the word with which an act, which may be anything, cannot be done now, or None."""
        if not is_act_form(act):
            return "form"
        find_word = ACT_WORDS[act[0]]
        return find_word(self.sheet(), act)

    def do(self, act):
        """Do an act, which may be anything, and return how many are done; raises BadAct(word)."""
        word = self.act_word(act)
        if word is not None:
            raise BadAct(word)
        make_sheet = ACT_SHEETS[act[0]]
        self._sheets.append(make_sheet(self.sheet(), act))
        self._acts.append(act)
        self._undone = []
        return len(self._acts)

    def undo(self):
        """Take the last act back, and return how many are done; raises NothingDone()."""
        if len(self._acts) == 0:
            raise NothingDone()
        self._undone.append((self._acts.pop(), self._sheets.pop()))
        return len(self._acts)

    def redo(self):
        """Do the act again that has been taken back last, and return how many are done; raises NothingDone()."""
        if len(self._undone) == 0:
            raise NothingDone()
        act, sheet = self._undone.pop()
        self._acts.append(act)
        self._sheets.append(sheet)
        return len(self._acts)

    def acts(self):
        """Return the list of the acts that are done."""
        return list(self._acts)

    def told(self, question):
        """Return the answer to a question about the book alone; raises TooMany() if its heap has over 400 members."""
        book = self.sheet()[0]
        if book not in self._known or question not in self._known[book]:
            if self._walked is None or self._walked[0] != book:
                self._walked = (book, walked(book, MOST_MEMBERS))
            find_answer = QUESTIONS[question]
            answers = self._known.setdefault(book, {})
            answers[question] = find_answer(book, self._walked[1])
        return self._known[book][question]

    def size(self):
        """Return the number of members; raises TooMany()."""
        return self.told("size")

    def times(self):
        """Return the times, or None if there are none; raises TooMany()."""
        return self.told("times")

    def faces(self):
        """Return the list of the lots of all faces; raises TooMany()."""
        return list(self.told("faces"))

    def is_fading(self):
        """Tell whether the book is fading; raises TooMany()."""
        return self.told("fading")

    def is_turned(self):
        """Tell whether the book has turned times; raises TooMany()."""
        return self.told("turned")

    def value_of(self, name, sort):
        """Return the value of the part of a sort with a name, which may be anything; raises BadAsk(word)."""
        for other, known, value in self.sheet()[2]:
            if known == name:
                if other != sort:
                    raise BadAsk("sort")
                return value
        raise BadAsk("name")

    def held(self, name):
        """Return held of a word part; raises BadAsk(word)."""
        return held_number(self.sheet()[0], self.value_of(name, "word"))

    def ends(self):
        """Return the tuple of all ends, ascending."""
        return ends(self.sheet()[0])

    def share(self, name):
        """Return the share that rests at the weights of a part; raises BadAsk(word)."""
        weights = self.value_of(name, "weights")
        if len(weights) == 0 or min(weights) <= 0:
            raise BadAsk("weights")
        if len(self.ends()) > 1:
            raise BadAsk("ends")
        return end_share(self.sheet()[0], weights, 0)

    def speeds(self, name):
        """Return the list of the pairs of a speed at the weights of a part, and its number; raises BadAsk(word)."""
        weights = self.value_of(name, "weights")
        told = self.times()
        if told is None:
            raise BadAsk("sums")
        return list(speeds_by(told, weights))

    def meeting(self, p, q):
        """Return the first word that leads two unlike places to one, or None; raises BadAsk(word)."""
        n = self.sheet()[0][0]
        if not is_below(p, n) or not is_below(q, n) or p == q:
            raise BadAsk("place")
        return first_meeting(self.sheet()[0], (min(p, q), max(p, q)))

    def work(self):
        """Return the work: about how many unlike books it has been asked what hangs on their heaps."""
        return len(self._known)

    def mark(self, name):
        """Set a mark with a name."""
        self._marks[name] = len(self._acts)

    def since(self, name):
        """Return how many acts more are done than at a mark; raises UnknownName(name) if there is none."""
        if not isinstance(name, str) or name not in self._marks:
            raise UnknownName(name)
        return len(self._acts) - self._marks[name]

    def marks(self):
        """Return the ascending list of the names of the marks."""
        return sorted(self._marks)

    def twin(self):
        """Return a desk that is as this one is now, and goes its own way from then on."""
        other = Desk()
        other._sheets = list(self._sheets)
        other._acts = list(self._acts)
        other._undone = list(self._undone)
        other._marks = dict(self._marks)
        other._known = {book: dict(answers) for book, answers in self._known.items()}
        other._walked = self._walked
        return other
