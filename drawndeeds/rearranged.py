"""Words in which each letter stands equally often: two of them with unlike held show that there are no turned times."""

from drawndeeds.books import is_word_pair
from drawndeeds.heaps import walked
from drawndeeds.letterlots import MOST_MEMBERS, held_number, held_numbers, words_behind


def tally_of(g, word):
    """Return the tally of a word of g letters."""
    tally = [0] * g
    for letter in word:
        tally[letter] += 1
    return tuple(tally)


def rearranged_words(book):
    """Return a pair of rearranged words with unlike held, or None if there is none.

    Raises TooMany() if the heap has more than 400 members.
    """
    walk = walked(book, MOST_MEMBERS)
    return first_rearranged(walk, held_numbers(walk))


def first_rearranged(walk, numbers):
    """Return the first pair of rearranged words with unlike held that [S11.4] tells of, or None.

    numbers tells for each member how many places it holds.
    """
    right = walk.right
    for number, row in enumerate(right):
        for a, led in enumerate(row):
            for b in range(a):
                if numbers[right[led][b]] != numbers[right[row[b]][a]]:
                    return words_behind(walk, number, ((a, b), (b, a)))
    return None


def judge_rearranged(book, value):
    """Return None if value, which may be anything, is a pair of rearranged words with unlike held, or its fault."""
    g = len(book[1])
    if not is_word_pair(g, value):
        return ("form",)
    if tally_of(g, value[0]) != tally_of(g, value[1]):
        return ("tally",)
    if held_number(book, value[0]) == held_number(book, value[1]):
        return ("held",)
    return None
