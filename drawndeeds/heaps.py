"""Heaps: all that the words of a book do, with the least words and the steps."""

from drawndeeds.books import idle, is_deed, product
from drawndeeds.errors import NoMember, TooMany

MOST_MEMBERS = 2000


def grown(book, most=None):
    """Return the members, their least words, and the dict of their numbers.

    Raises TooMany() if there are more than most of them; None lets any number be.
    """
    n, deeds = book
    members = [idle(n)]
    words = [()]
    numbers = {idle(n): 0}
    at = 0
    while at < len(members):
        for letter, deed in enumerate(deeds):
            made = product(members[at], deed)
            if made not in numbers:
                if most is not None and len(members) >= most:
                    raise TooMany()
                numbers[made] = len(members)
                members.append(made)
                words.append(words[at] + (letter,))
        at += 1
    return members, words, numbers


def heap(book):
    """Return the heap; raises TooMany() if it has more than 2,000 members."""
    return tuple(grown(book, MOST_MEMBERS)[0])


def least_words(book):
    """Return the list of the members' least words; raises TooMany() as heap."""
    return grown(book, MOST_MEMBERS)[1]


def number_among(numbers, n, deed):
    """Return the number of a member by the dict of numbers; raises NoMember(deed)."""
    # What is no deed may be no key of a dict, or may equal a deed, as (True, 0) equals (1, 0).
    if not is_deed(n, deed) or deed not in numbers:
        raise NoMember(deed)
    return numbers[deed]


def number_of(book, deed):
    """Return the number of a member; raises NoMember(deed) if deed is none."""
    return number_among(grown(book)[2], book[0], deed)


def least_word(book, deed):
    """Return the least word of a member; raises NoMember(deed) if deed is none."""
    _, words, numbers = grown(book)
    return words[number_among(numbers, book[0], deed)]


def right_steps(book):
    """Return for each member the list of the numbers of its products with each letter behind it."""
    members, _, numbers = grown(book)
    return [[numbers[product(member, deed)] for deed in book[1]] for member in members]


def left_steps(book):
    """Return for each member the list of the numbers of its products with each letter ahead of it."""
    members, _, numbers = grown(book)
    return [[numbers[product(deed, member)] for deed in book[1]] for member in members]
