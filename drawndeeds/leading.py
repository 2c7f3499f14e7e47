"""To which lots of places words lead all places, and words that lead them to the fewest."""

from drawndeeds.books import done, idle, is_word, reach
from drawndeeds.ranks import all_pairs, meeting_letters, word_and_reach_by


def walked_lots(book):
    """Return the list of the reaches of words, by their first words, and where the letters lead each, by numbers."""
    n, deeds = book
    lots = [idle(n)]
    numbers = {lots[0]: 0}
    onward = []
    while len(onward) < len(lots):
        places = lots[len(onward)]
        steps = []
        for deed in deeds:
            led = reach([deed[p] for p in places])
            steps.append(numbers.setdefault(led, len(lots)))
            if steps[-1] == len(lots):
                lots.append(led)
        onward.append(steps)
    return lots, onward


def led_lots(book):
    """Return the tuple of the reaches of all words, more places ahead of fewer."""
    found = {}
    for lot in walked_lots(book)[0]:
        found.setdefault(len(lot), []).append(lot)
    return tuple([lot for many in sorted(found, reverse=True) for lot in sorted(found[many])])


def first_to_one(book):
    """Return the first word that leads all to one, or None if none does."""
    lots, onward = walked_lots(book)
    words = {0: ()}
    for number, steps in enumerate(onward):
        if len(lots[number]) == 1:
            return words[number]
        for letter, led in enumerate(steps):
            if led not in words:
                words[led] = words[number] + (letter,)
    return None


def led_word(book):
    """Return the led word of a book."""
    letters = meeting_letters(book)
    return word_and_reach_by(book, letters, sorted(letters))[0]


def judge_least(book, value):
    """Return None if value, which may be anything, is a word of the least rank, or its first fault."""
    if not is_word(len(book[1]), value):
        return ("form",)
    letters = meeting_letters(book)
    for pair in all_pairs(reach(done(book, value))):
        if pair in letters:
            return ("meet",) + pair
    return None
