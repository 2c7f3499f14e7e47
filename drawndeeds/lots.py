"""Letters left out, lots that do the book, and books side by side."""

from drawndeeds.errors import UnlikeLetters
from drawndeeds.heaps import grown


def cut(book, lot):
    """Return the book cut to a lot."""
    n, deeds = book
    return (n, tuple([deeds[letter] for letter in lot]))


def does_book(book, lot):
    """Tell whether the book cut to a lot has the same members."""
    # The cut book's members are some of the book's; they are all as soon as they have its letters' deeds.
    numbers = grown(cut(book, lot))[2]
    return all([deed in numbers for deed in book[1]])


def all_lots(g):
    """Return the list of all lots of g letters, ascending as tuples."""
    lots = [()]
    for letter in range(g):
        lots = lots + [lot + (letter,) for lot in lots]
    return sorted(lots)


def without_one(lot):
    """Return the list of the lots that have one letter less."""
    return [lot[:k] + lot[k + 1:] for k in range(len(lot))]


def tight_lots(book):
    """Return the list of all tight lots, ascending as tuples."""
    lots = all_lots(len(book[1]))
    doing = {lot: does_book(book, lot) for lot in lots}
    return [lot for lot in lots if doing[lot] and not any([doing[less] for less in without_one(lot)])]


def words_for(book, lot):
    """Return for each letter the least word of the lot's letters that does its deed, or None."""
    _, words, numbers = grown(cut(book, lot))
    found = []
    for deed in book[1]:
        word = None
        if deed in numbers:
            word = tuple([lot[k] for k in words[numbers[deed]]])
        found.append(word)
    return found


def side_by_side(book, other):
    """Return the book of both; raises UnlikeLetters() if they have not equally many letters."""
    n, deeds = book
    m, others = other
    if len(deeds) != len(others):
        raise UnlikeLetters()
    both = [deed + tuple([n + q for q in beside]) for deed, beside in zip(deeds, others)]
    return (n + m, tuple(both))
