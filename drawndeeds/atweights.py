"""Speeds of faces and of books at weights, and the weights that tell whether a book has times."""

from drawndeeds.coefficients import coefficients_of, times_in
from drawndeeds.faces import all_faces, least_reach, reaches_of
from drawndeeds.heaps import grown
from drawndeeds.lattice import faces_of_words
from drawndeeds.triangles import triangle, triangle_times
from drawndeeds.words import is_integer


def speed_of(lot, weights):
    """Return the sum of the weights of a lot's letters."""
    return sum([weights[letter] for letter in lot])


def face_speeds(book, weights):
    """Return the list of the pairs (lot, speed) for all faces, in their order, at weights of letters."""
    return [(f, speed_of(f, weights)) for f in all_faces(book)]


def speeds_at(book, weights):
    """Return the ascending tuple of the pairs (z, times) for a book that has times, None for another one."""
    found = triangle(book)
    if found is None:
        return None
    return speeds_by(triangle_times(found), weights)


def speeds_by(told, weights):
    """Return the ascending tuple of the pairs (z, number) that times tell at weights, numbers of one z being added."""
    numbers = {}
    for lot, number in told:
        z = speed_of(lot, weights)
        numbers[z] = numbers.get(z, 0) + number
    return tuple([(z, numbers[z]) for z in sorted(numbers)])


def telling_weights(book):
    """Return the telling weights of a book."""
    weights = [1]
    for _ in grown(book)[0][1:]:
        weights.append(weights[-1] * (2 * book[0] + 1))
    return tuple(weights)


def full_sum(book, weights):
    """Return the full sum of a book at member weights."""
    reaches = reaches_of(book)
    faces = faces_of_words(book, grown(book)[1])
    ranks = {f: reaches.sizes[least_reach(reaches, f)] for f in all_faces(book)}
    return sum([weight * ranks[f] for weight, f in zip(weights, faces)])


def judge_speeds(table, value):
    """Return None if value, which may be anything, tells all roots of a table's coefficients, or its first fault."""
    if not is_speeds_form(value):
        return ("form",)
    for k in range(1, len(value)):
        if value[k][0] <= value[k - 1][0]:
            return ("order", k)
    coefficients = coefficients_of(table)
    for k, (z, number) in enumerate(value):
        if times_in(coefficients, z) != number:
            return ("times", k)
    if sum([number for _, number in value]) != len(table):
        return ("lacks",)
    return None


def is_speeds_form(value):
    """Tell whether value, which may be anything, is a tuple of pairs of an integer and one of at least 1."""
    if not isinstance(value, tuple):
        return False
    for pair in value:
        if not isinstance(pair, tuple) or len(pair) != 2:
            return False
        if not is_integer(pair[0]) or not is_integer(pair[1]) or pair[1] < 1:
            return False
    return True
