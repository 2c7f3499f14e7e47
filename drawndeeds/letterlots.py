"""Lots of words, and how many places words hold where that hangs on their lots alone."""

from drawndeeds.books import done, held
from drawndeeds.heaps import walked, word_to
from drawndeeds.lots import all_lots

MOST_MEMBERS = 400


def lot_of(word):
    """Return the lot of a word: its letters, each once."""
    return tuple(sorted(set(word)))


def held_number(book, word):
    """Return how many places the product of a word holds."""
    return len(held(done(book, word)))


def held_by_lots(book):
    """Return the list of the pairs (lot, held) for all lots, or None if held does not hang on lots alone.

    Raises TooMany() if the heap has more than 400 members.
    """
    return held_in_lots(walked(book, MOST_MEMBERS))


def held_in_lots(walk):
    """Return what held_by_lots does for the book of a walk."""
    numbers = held_numbers(walk)
    if first_unlike(walk, numbers) is not None:
        return None
    return [(lot, numbers[number_behind(walk, 0, lot)]) for lot in all_lots(len(walk.right[0]))]


def held_numbers(walk):
    """Return the list that has for each member of a walk how many places it holds."""
    return [len(held(member)) for member in walk.members]


def number_behind(walk, number, word):
    """Return the number of the product of a member and what a word does."""
    for letter in word:
        number = walk.right[number][letter]
    return number


def first_unlike(walk, numbers):
    """Return the first pair of words with one lot and unlike held that [S5.5] tells of, or None.

    numbers tells for each member how many places it holds.
    """
    right = walk.right
    for number, row in enumerate(right):
        for a, led in enumerate(row):
            if numbers[led] != numbers[right[led][a]]:
                return words_behind(walk, number, ((a,), (a, a)))
            for b in range(a):
                if numbers[right[led][b]] != numbers[right[row[b]][a]]:
                    return words_behind(walk, number, ((a, b), (b, a)))
    return None


def words_behind(walk, number, pair):
    """Return the pair of words that a pair makes behind the least word of a member."""
    word = word_to(walk, number)
    return (word + pair[0], word + pair[1])
