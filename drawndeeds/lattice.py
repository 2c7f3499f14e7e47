"""The faces of a book together: their signed numbers, sums over them, floors and mark rows."""

from drawndeeds.faces import all_faces, face_with, reaches_of, reaches_with_faces
from drawndeeds.heaps import grown, right_steps
from drawndeeds.letterlots import lot_of
from drawndeeds.words import is_below


def is_within(f, g):
    """Tell whether a face is within another one, both told by their lots."""
    return all([letter in g for letter in f])


def signed(book, f, g):
    """Return the signed number of a face within another one, 0 if it is not within it; raises NoFace(f), NoFace(g)."""
    reaches_with_faces(book, (f, g))
    told = {}
    for h in all_faces(book):
        if is_within(f, h) and is_within(h, g):
            told[h] = 1 if h == f else -sum([told[other] for other in told if is_within(other, h)])
    return told.get(g, 0)


def summed(book, numbers):
    """Return the list that has for each face the sum of the numbers of all faces within it."""
    faces = all_faces(book)
    return [sum_within(faces, numbers, g) for g in faces]


def sum_within(faces, numbers, g):
    """Return the sum of the numbers of the faces within a face, as far as there are numbers."""
    return sum([number for f, number in zip(faces, numbers) if is_within(f, g)])


def unsummed(book, numbers):
    """Return the list of which numbers is the summed list."""
    faces = all_faces(book)
    found = []
    # The faces within a face stand ahead of it, so their numbers are those that are found.
    for g, number in zip(faces, numbers):
        found.append(number - sum_within(faces, found, g))
    return found


def faces_of_words(book, words):
    """Return the list of the lots of the least faces of some words."""
    reaches = reaches_of(book)
    known = {}
    found = []
    for word in words:
        lot = lot_of(word)
        if lot not in known:
            known[lot] = face_with(reaches, lot)
        found.append(known[lot])
    return found


def floors(book):
    """Return the list of the floors, tuples of members in the heap's order, in the faces' order."""
    members, words, _ = grown(book)
    found = {f: [] for f in all_faces(book)}
    for member, f in zip(members, faces_of_words(book, words)):
        found[f].append(member)
    return [tuple(members) for members in list(found.values())]


def mark_row(book, f):
    """Return the mark row of a face; raises NoFace(f)."""
    reaches_with_faces(book, (f,))
    return tuple([int(is_within(word, f)) for word in grown(book)[1]])


def judge_marks(book, value):
    """Return None if value, which may be anything, is a mark row, or its first fault."""
    right = right_steps(book)
    if not isinstance(value, tuple) or len(value) != len(right) or not all([is_below(mark, 2) for mark in value]):
        return ("form",)
    if value[0] != 1:
        return ("idle",)
    for k, row in enumerate(right):
        for letter, led in enumerate(row):
            if value[led] != value[k] * value[right[0][letter]]:
                return ("step", k, letter)
    return None
