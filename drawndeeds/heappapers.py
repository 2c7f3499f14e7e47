"""Heap papers and shut lists, and how they are judged."""

from drawndeeds.books import idle, is_deed, is_word, product
from drawndeeds.heaps import grown
from drawndeeds.words import is_ahead


def heap_paper(book):
    """Return the right heap paper: the members with their least words."""
    members, words, _ = grown(book)
    return tuple(zip(members, words))


def judge_heap(book, value):
    """Return None if value, which may be anything, is the right heap paper, or its first fault."""
    if not is_heap_form(book, value):
        return ("form",)
    if len(value) == 0 or value[0] != (idle(book[0]), ()):
        return ("first",)
    fault = order_fault(value)
    if fault is None:
        fault = made_fault(book, value)
    if fault is None:
        fault = twice_fault(value)
    if fault is None:
        fault = shut_fault(book, value)
    return fault


def is_heap_form(book, value):
    """Tell whether value, which may be anything, is a tuple of pairs of a deed and a word."""
    n, deeds = book
    if not isinstance(value, tuple):
        return False
    for pair in value:
        if not isinstance(pair, tuple) or len(pair) != 2:
            return False
        if not is_deed(n, pair[0]) or not is_word(len(deeds), pair[1]):
            return False
    return True


def order_fault(paper):
    """Return the fault of the first pair whose word is not behind the one ahead, or None."""
    for k in range(1, len(paper)):
        if not is_ahead(paper[k - 1][1], paper[k][1]):
            return ("order", k)
    return None


def made_fault(book, paper):
    """Return the fault of the first pair that is not made of one ahead of it, or None."""
    deeds = book[1]
    deed_by_word = {(): paper[0][0]}
    for k in range(1, len(paper)):
        deed, word = paper[k]
        start = deed_by_word.get(word[:-1])
        if start is None or product(start, deeds[word[-1]]) != deed:
            return ("made", k)
        deed_by_word[word] = deed
    return None


def twice_fault(paper):
    """Return the fault of the first pair whose deed stands ahead of it, too, or None."""
    seen = {}
    for k, pair in enumerate(paper):
        if pair[0] in seen:
            return ("twice", k)
        seen[pair[0]] = True
    return None


def shut_fault(book, paper):
    """Return the fault of the first pair and letter that lead out, or to too late a word, or None."""
    word_by_deed = {deed: word for deed, word in paper}
    for k, (deed, word) in enumerate(paper):
        for letter, step in enumerate(book[1]):
            told = word_by_deed.get(product(deed, step))
            if told is None or is_ahead(word + (letter,), told):
                return ("shut", k, letter)
    return None


def shut_list(book, deed):
    """Return a shut list that lacks a deed of the book's places, or None if there is none."""
    members, _, numbers = grown(book)
    if deed in numbers:
        return None
    return tuple(members)


def judge_shut_list(book, deed, value):
    """Tell whether value, which may be anything, is a shut list that lacks a deed."""
    n, deeds = book
    if not isinstance(value, tuple) or not all([is_deed(n, member) for member in value]):
        return False
    among = {member: True for member in value}
    if len(among) != len(value) or idle(n) not in among or deed in among:
        return False
    return all([product(member, step) in among for member in value for step in deeds])
