"""Heaps: all that the words of a book do, with the least words and the steps."""

from drawndeeds.books import idle, is_deed
from drawndeeds.errors import NoMember, TooMany

MOST_MEMBERS = 2000


class Walk:
    """The members of a heap, the dict of their numbers, their right and left steps, and their least words.

    The least word of a member is told by the number of what it does without its last letter, and by this letter;
    both are None for the idle one.
    """

    def __init__(self, members, numbers, steps, tails):
        self.members = members
        self.numbers = numbers
        self.right, self.left = steps
        self.aheads, self.lasts = tails


def walked(book, most=None):
    """Return the walk through a heap; raises TooMany() if it has more than most members (None: any number)."""
    n, deeds = book
    members, numbers = [idle(n)], {idle(n): 0}
    firsts = [None]
    for letter, deed in enumerate(deeds):
        if deed not in numbers:
            numbers[deed] = len(members)
            members.append(deed)
            firsts.append(letter)
    # Each least word is told as its first letter and what is behind it, and as what is ahead of its last letter.
    behinds = [None] + [0] * (len(members) - 1)
    aheads, lasts = list(behinds), list(firsts)
    right = [[numbers[deed] for deed in deeds]]
    left = [list(right[0])]
    while len(right) < len(members):
        # Length by length, since the right steps of words of a length need the left ones of shorter words.
        start, end = len(right), len(members)
        for number in range(start, end):
            member, first, behind = members[number], firsts[number], behinds[number]
            row = []
            right.append(row)
            for letter, step in enumerate(right[behind]):
                if aheads[step] != behind or lasts[step] != letter:
                    # What is behind the first letter takes a step back to a word that has been met.
                    row.append(right[left[aheads[step]][first]][lasts[step]] if step > 0 else right[0][first])
                    continue
                deed = deeds[letter]
                made = tuple([deed[p] for p in member])
                row.append(numbers.setdefault(made, len(members)))
                if row[-1] == len(members):
                    members.append(made)
                    firsts.append(first)
                    behinds.append(step)
                    aheads.append(number)
                    lasts.append(letter)
            if most is not None and len(members) > most:
                raise TooMany()
        left += [[right[led][lasts[k]] for led in left[aheads[k]]] for k in range(start, end)]
    return Walk(members, numbers, (right, left), (aheads, lasts))


def word_to(walk, number):
    """Return the least word of the member with a number."""
    letters = []
    while number > 0:
        letters.append(walk.lasts[number])
        number = walk.aheads[number]
    return tuple(letters[::-1])


def grown(book, most=None):
    """Return the members, their least words, and the dict of their numbers; raises TooMany() as walked.

    Where no steps are asked for this is done with less than a walk.
    """
    n, deeds = book
    members, words, numbers = [idle(n)], [()], {idle(n): 0}
    at = 0
    while at < len(members):
        member = members[at]
        for letter, deed in enumerate(deeds):
            made = tuple([deed[p] for p in member])
            if made not in numbers:
                numbers[made] = len(members)
                members.append(made)
                words.append(words[at] + (letter,))
        if most is not None and len(members) > most:
            raise TooMany()
        at += 1
    return members, words, numbers


def heap(book):
    """Return the heap; raises TooMany() if it has more than 2,000 members."""
    return tuple(grown(book, MOST_MEMBERS)[0])


def least_words(book):
    """Return the list of the members' least words; raises TooMany() as heap."""
    return grown(book, MOST_MEMBERS)[1]


def number_among(numbers, n, deed):
    """Return the number of a member by the dict of numbers; raises NoMember(deed)."""
    # What is no deed may be no key of a dict, or may equal a deed, as (True, 0) equals (1, 0).
    if not is_deed(n, deed) or deed not in numbers:
        raise NoMember(deed)
    return numbers[deed]


def number_of(book, deed):
    """Return the number of a member; raises NoMember(deed) if deed is none."""
    return number_among(grown(book)[2], book[0], deed)


def least_word(book, deed):
    """Return the least word of a member; raises NoMember(deed) if deed is none."""
    _, words, numbers = grown(book)
    return words[number_among(numbers, book[0], deed)]


def right_steps(book):
    """Return for each member the list of the numbers of its products with each letter behind it."""
    return walked(book).right


def left_steps(book):
    """Return for each member the list of the numbers of its products with each letter ahead of it."""
    return walked(book).left
