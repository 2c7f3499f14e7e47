"""The least rank of all members, by the pairs of places that meet."""

from drawndeeds.books import ascending_fault, done, idle, is_word, product, rank, reach
from drawndeeds.words import is_below


def all_pairs(places):
    """Return the ascending list of the pairs of two of some ascending places."""
    return [(p, q) for k, p in enumerate(places) for q in places[k + 1:]]


def led_pair(deed, pair):
    """Return the ascending pair to which a deed leads one, or None if it leads both places to one."""
    p, q = deed[pair[0]], deed[pair[1]]
    if p == q:
        return None
    return (min(p, q), max(p, q))


def meeting_letters(book):
    """Return the dict that has for each pair that meets the first letter of a shortest word for it.

    The pairs stand in it in the order of the lengths of these words.
    """
    letters = {}
    found = next_to_meet(book, letters)
    while len(found) > 0:
        for pair, letter in found:
            letters[pair] = letter
        found = next_to_meet(book, letters)
    return letters


def next_to_meet(book, letters):
    """Return the list of the further pairs that one letter leads to one place, or to pairs with letters.

    Each stands with the first letter that does so.
    """
    found = []
    for pair in all_pairs(idle(book[0])):
        if pair not in letters:
            letter = letter_towards(book, letters, pair)
            if letter is not None:
                found.append((pair, letter))
    return found


def letter_towards(book, letters, pair):
    """Return the first letter that leads a pair to one place, or to one of the pairs with letters, or None."""
    for letter, deed in enumerate(book[1]):
        led = led_pair(deed, pair)
        if led is None or led in letters:
            return letter
    return None


def meeting_pairs(book):
    """Return the ascending list of the pairs (p, q) of places, p less than q, that meet."""
    return sorted(meeting_letters(book))


def least_word_and_reach(book):
    """Return a word of the least rank and the reach of what it does."""
    letters = meeting_letters(book)
    return word_and_reach_by(book, letters, list(letters))


def word_and_reach_by(book, letters, row):
    """Return a word of the least rank and the reach of what it does.

    As long as one of the pairs of a row, all that meet, lies in the reach, the word for the first one is put behind.
    """
    word = ()
    deed = idle(book[0])
    pair = first_within(row, deed)
    while pair is not None:
        more = word_from(book, letters, pair)
        word = word + more
        deed = product(deed, done(book, more))
        pair = first_within(row, deed)
    return word, reach(deed)


def first_within(row, deed):
    """Return the first pair of a row that lies in a deed's reach, or None."""
    among = {place: True for place in deed}
    for p, q in row:
        if p in among and q in among:
            return (p, q)
    return None


def word_from(book, letters, pair):
    """Return the word that the letters of the pairs tell for one of them."""
    word = []
    while pair is not None:
        word.append(letters[pair])
        pair = led_pair(book[1][letters[pair]], pair)
    return tuple(word)


def least_rank(book):
    """Return the least rank of all members."""
    return len(least_word_and_reach(book)[1])


def apart_places(book):
    """Return an ascending tuple of as many places as can be apart."""
    return least_word_and_reach(book)[1]


def rank_paper(book):
    """Return a rank paper."""
    word, places = least_word_and_reach(book)
    letters = meeting_letters(book)
    pairs = [pair for pair in all_pairs(idle(book[0])) if pair not in letters]
    return (word, places, tuple(pairs))


def judge_rank(book, value):
    """Return None if value, which may be anything, is a rank paper, or its first fault."""
    if not is_rank_form(book, value):
        return ("form",)
    word, places, pairs = value
    if rank(done(book, word)) != len(places):
        return ("rank",)
    among = {pair: True for pair in pairs}
    for p, q in all_pairs(places):
        if (p, q) not in among:
            return ("apart", p, q)
    for k, pair in enumerate(pairs):
        for letter, deed in enumerate(book[1]):
            led = led_pair(deed, pair)
            if led is None or led not in among:
                return ("step", k, letter)
    return None


def is_rank_form(book, value):
    """Tell whether value, which may be anything, is a triple of a word, places and pairs as they should be."""
    n, deeds = book
    if not isinstance(value, tuple) or len(value) != 3:
        return False
    word, places, pairs = value
    if not is_word(len(deeds), word) or ascending_fault(n, places) is not None or not isinstance(pairs, tuple):
        return False
    if not all([is_pair(n, pair) for pair in pairs]):
        return False
    return all([pairs[k - 1] < pairs[k] for k in range(1, len(pairs))])


def is_pair(n, value):
    """Tell whether value, which may be anything, is a pair (p, q) of places, p less than q."""
    if not isinstance(value, tuple) or len(value) != 2:
        return False
    return is_below(value[1], n) and is_below(value[0], value[1])
