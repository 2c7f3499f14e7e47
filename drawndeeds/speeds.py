"""Times: which sums of weights the speeds of a book are, and how often each one comes."""

from drawndeeds.books import ascending_fault
from drawndeeds.heaps import walked
from drawndeeds.letterlots import MOST_MEMBERS, held_in_lots, held_numbers
from drawndeeds.words import is_integer


def times(book):
    """Return the times of a book, or None if it has none; raises TooMany() if its heap has more than 400 members."""
    return times_of(walked(book, MOST_MEMBERS))


def times_of(walk):
    """Return the times of the book of a walk, or None if it has none."""
    pairs = held_in_lots(walk)
    if pairs is None:
        return None
    numbers = {lot: number for lot, number in pairs}
    # What a lot holds is what its times and those of all greater lots tell; letter by letter the latter are taken away.
    for letter in range(len(walk.right[0])):
        for lot, _ in pairs:
            if letter not in lot:
                numbers[lot] -= numbers[tuple(sorted(lot + (letter,)))]
    return tuple([(lot, numbers[lot]) for lot, _ in pairs if numbers[lot] > 0])


def judge_times(book, value):
    """Return None if value, which may be anything, is the times of the book, or its first fault.

    Raises TooMany() if the heap has more than 400 members.
    """
    walk = walked(book, MOST_MEMBERS)
    if not is_times_form(len(book[1]), value):
        return ("form",)
    for k in range(1, len(value)):
        if value[k][0] <= value[k - 1][0]:
            return ("order", k)
    if value == times_of(walk):
        return None
    return ("held", first_other_word(walk, value))


def is_times_form(g, value):
    """Tell whether value, which may be anything, is a tuple of pairs of a lot and an integer of at least 1."""
    if not isinstance(value, tuple):
        return False
    for pair in value:
        if not isinstance(pair, tuple) or len(pair) != 2 or ascending_fault(g, pair[0]) is not None:
            return False
        if not is_integer(pair[1]) or pair[1] < 1:
            return False
    return True


def first_other_word(walk, told):
    """Return the first word whose held is not the sum of the numbers of the pairs whose lots have its letters."""
    numbers = held_numbers(walk)
    sums = {}
    # Words that do the same with the same letters go on alike, so only the first one of them is looked at.
    seen = {(0, ()): True}
    row = [(0, (), ())]
    at = 0
    while at < len(row):
        number, lot, word = row[at]
        at += 1
        if lot not in sums:
            sums[lot] = sum_with(told, lot)
        if numbers[number] != sums[lot]:
            return word
        for letter, led in enumerate(walk.right[number]):
            more = lot if letter in lot else tuple(sorted(lot + (letter,)))
            if (led, more) not in seen:
                seen[(led, more)] = True
                row.append((led, more, word + (letter,)))
    return None


def sum_with(told, lot):
    """Return the sum of the numbers of those pairs whose lots have all letters of a lot."""
    return sum([number for other, number in told if all([letter in other for letter in lot])])


def times_cut(told, lot):
    """Return the times of the book in which only the letters of a lot stay, in their new numbers."""
    return gathered([(tuple([k for k, letter in enumerate(lot) if letter in other]), number)
                     for other, number in told])


def times_together(told, other):
    """Return the times of two books side by side."""
    return gathered(told + other)


def gathered(pairs):
    """Return the times that pairs (lot, number) tell, in any sequence, numbers of one lot being added."""
    numbers = {}
    for lot, number in pairs:
        numbers[lot] = numbers.get(lot, 0) + number
    return tuple([(lot, numbers[lot]) for lot in sorted(numbers)])
