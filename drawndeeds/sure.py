"""Sure pairs, which meet wherever words have led them, with papers for it and against it."""

from drawndeeds.books import is_word
from drawndeeds.lumps import parting_by
from drawndeeds.meeting import first_not_behind, judge_still, lead_pair, never_met
from drawndeeds.ranks import all_pairs, is_pair, led_pair, meeting_letters, word_from


def words_to_pairs(book, pair):
    """Return the dict that has for each pair to which words lead a pair the first one of these words."""
    words = {pair: ()}
    row = [pair]
    at = 0
    while at < len(row):
        here = row[at]
        at += 1
        for letter, deed in enumerate(book[1]):
            led = led_pair(deed, here)
            if led is not None and led not in words:
                words[led] = words[here] + (letter,)
                row.append(led)
    return words


def is_sure(book, pair):
    """Tell whether a pair is sure."""
    letters = meeting_letters(book)
    return all([led in letters for led in words_to_pairs(book, pair)])


def unsure_pairs(book):
    """Return the dict that has all pairs that are not sure."""
    ahead = {}
    for pair in all_pairs(list(range(book[0]))):
        for deed in book[1]:
            ahead.setdefault(led_pair(deed, pair), []).append(pair)
    row = list(never_met(book))
    found = {pair: True for pair in row}
    while len(row) > 0:
        here = row.pop()
        for pair in ahead.get(here, []):
            if pair not in found:
                found[pair] = True
                row.append(pair)
    return found


def sure_parting(book):
    """Return the sure parting."""
    unsure = unsure_pairs(book)
    marks = []
    for q in range(book[0]):
        marks.append([p for p in range(q + 1) if p == q or (p, q) not in unsure][0])
    return parting_by(marks)


def sure_paper(book, pair):
    """Return a sure paper for a pair, or None if it is not sure."""
    letters = meeting_letters(book)
    found = sorted(words_to_pairs(book, pair))
    if not all([led in letters for led in found]):
        return None
    return tuple([(led, word_from(book, letters, led)) for led in found])


def unsure_paper(book, pair):
    """Return an unsure paper for a pair, or None if it is sure."""
    lot = never_met(book)
    for led, word in words_to_pairs(book, pair).items():
        if led in lot:
            return (word, lot)
    return None


def judge_sure(book, pair, value):
    """Return None if value, which may be anything, is a sure paper for a pair, or its first fault."""
    if not isinstance(value, tuple) or not all([is_entry(book, member) for member in value]):
        return ("form",)
    among = {led: True for led, _ in value}
    k = first_not_behind([led for led, _ in value])
    if k is not None:
        return ("order", k)
    if pair not in among:
        return ("lacks",)
    for k, (member, word) in enumerate(value):
        if lead_pair(book, word, member) is not None:
            return ("word", k)
        for letter, deed in enumerate(book[1]):
            led = led_pair(deed, member)
            if led is not None and led not in among:
                return ("out", k, letter)
    return None


def is_entry(book, value):
    """Tell whether value, which may be anything, is an entry (pair, word)."""
    n, deeds = book
    return isinstance(value, tuple) and len(value) == 2 and is_pair(n, value[0]) and is_word(len(deeds), value[1])


def judge_unsure(book, pair, value):
    """Return None if value, which may be anything, is an unsure paper for a pair, or its first fault."""
    if not isinstance(value, tuple) or len(value) != 2 or not is_word(len(book[1]), value[0]):
        return ("form",)
    led = lead_pair(book, value[0], pair)
    if led is None:
        return ("together",)
    return judge_still(book, led, value[1])
