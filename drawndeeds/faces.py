"""Faces: sets of members that have a product exactly if they have what it is made of, told by their letters."""

from drawndeeds.books import ascending_fault, done, is_settled, is_word_pair, rank
from drawndeeds.comings import coming_paper, mutual, numbers_from
from drawndeeds.errors import NoFace
from drawndeeds.heaps import grown, least_word
from drawndeeds.leading import walked_lots
from drawndeeds.letterlots import lot_of
from drawndeeds.lots import all_lots, cut


class Reaches:
    """The reaches of a book's words, numbered, the first one being that of ().

    sizes tells how many places each one has, onward to which ones the letters lead it, and inner the lot of the
    letters of all words that lead it to itself.
    """

    def __init__(self, sizes, onward, inner):
        self.sizes = sizes
        self.onward = onward
        self.inner = inner


def reaches_of(book):
    """Return the reaches of a book's words."""
    lots, onward = walked_lots(book)
    return Reaches([len(places) for places in lots], onward, inner_letters(onward))


def inner_letters(onward):
    """Return for each number the lot of the letters of all ways that steps lead from it to itself."""
    inner = [()] * len(onward)
    for numbers in mutual(onward):
        among = {number: True for number in numbers}
        lot = lot_of([letter for number in numbers for letter, led in enumerate(onward[number]) if led in among])
        for number in numbers:
            inner[number] = lot
    return inner


def least_reach(reaches, lot):
    """Return the number of a reach with the fewest places that words of a lot's letters have."""
    least = 0
    for number in numbers_from([[steps[letter] for letter in lot] for steps in reaches.onward], 0):
        if reaches.sizes[number] < reaches.sizes[least]:
            least = number
    return least


def letters_around(reaches, lot):
    """Return the lot of the letters of whose deeds the least lot of the book cut to a lot comes around.

    Some member of that least lot leads the places of its reach to themselves. It comes around of a letter's deed
    exactly if a word with this letter does so, too, done often enough.
    """
    return reaches.inner[least_reach(reaches, lot)]


def is_lot_of_face(reaches, lot):
    """Tell whether a lot of letters is that of a face."""
    return all([letter in lot for letter in letters_around(reaches, lot)])


def face_with(reaches, lot):
    """Return the lot of the least face of the letters of a lot."""
    more = lot_of(lot + letters_around(reaches, lot))
    while more != lot:
        lot = more
        more = lot_of(lot + letters_around(reaches, lot))
    return lot


def is_face(book, value):
    """Tell whether value, which may be anything, is the lot of a face."""
    return ascending_fault(len(book[1]), value) is None and is_lot_of_face(reaches_of(book), value)


def reaches_with_faces(book, values):
    """Return the reaches of a book's words.

    Raises NoFace(value) with the first of some values, which may be anything, that is not the lot of a face.
    """
    reaches = reaches_of(book)
    for value in values:
        if ascending_fault(len(book[1]), value) is not None or not is_lot_of_face(reaches, value):
            raise NoFace(value)
    return reaches


def all_faces(book):
    """Return the list of the lots of all faces, those with the fewest letters first."""
    reaches = reaches_of(book)
    return [lot for lot in sorted(all_lots(len(book[1])), key=len) if is_lot_of_face(reaches, lot)]


def out_paper(book, lot):
    """Return an out paper of a lot, or None if it is that of a face."""
    outside = [letter for letter in letters_around(reaches_of(book), lot) if letter not in lot]
    if len(outside) == 0:
        return None
    members, words, _ = grown(cut(book, lot))
    at = number_of_least_rank(members)
    ahead, behind = coming_paper(book, "around", book[1][outside[0]], members[at])
    return (tuple([lot[k] for k in words[at]]), ahead + (outside[0],) + behind)


def number_of_least_rank(members):
    """Return the number of the first of some members that has the least rank."""
    ranks = [rank(member) for member in members]
    return ranks.index(min(ranks))


def judge_out(book, lot, value):
    """Return None if value, which may be anything, is an out paper of a lot, or its first fault."""
    if not is_word_pair(len(book[1]), value):
        return ("form",)
    if not all([letter in lot for letter in value[0]]):
        return ("within",)
    if all([letter in lot for letter in value[1]]):
        return ("out",)
    if done(book, value[0]) != done(book, value[1]):
        return ("same",)
    return None


def least_face(book, lot):
    """Return the lot of the least face of some letters."""
    return face_with(reaches_of(book), lot)


def face_of_word(book, word):
    """Return the lot of the least face of a word."""
    return least_face(book, lot_of(word))


def face_of_member(book, m):
    """Return the lot of the least face of a member."""
    return face_of_word(book, least_word(book, m))


def meet(book, f, g):
    """Return the lot of the meet of two faces; raises NoFace(f), NoFace(g)."""
    reaches_with_faces(book, (f, g))
    return tuple([letter for letter in f if letter in g])


def join(book, f, g):
    """Return the lot of the join of two faces; raises NoFace(f), NoFace(g)."""
    reaches = reaches_with_faces(book, (f, g))
    return face_with(reaches, lot_of(f + g))


def members_of(book, f):
    """Return the tuple of the members of a face, in the heap's order; raises NoFace(f)."""
    reaches_with_faces(book, (f,))
    # What words of other letters do is not in the face, so least words are the same in the book cut to it.
    return tuple(grown(cut(book, f))[0])


def key(book, f):
    """Return the key of a face; raises NoFace(f)."""
    settled = [member for member in members_of(book, f) if is_settled(member)]
    return settled[number_of_least_rank(settled)]
