"""How many words of a length do each member, and of which lengths there are some."""

from drawndeeds.heaps import number_of, right_steps


def word_counts(book, t):
    """Return the tuple that tells for each member how many words of t letters do it."""
    steps = right_steps(book)
    counts = [1] + [0] * (len(steps) - 1)
    for _ in range(t):
        counts = counts_behind(steps, counts)
    return tuple(counts)


def counts_behind(steps, counts):
    """Return the counts for words of one letter more."""
    longer = [0] * len(counts)
    for count, row in zip(counts, steps):
        for number in row:
            longer[number] += count
    return longer


def round_masks(book):
    """Return the list of the rounds below HEAD + LOOP, and HEAD.

    A round is an integer: its bit k tells whether member k is in it.
    """
    onward = [mask_of(row) for row in right_steps(book)]
    rounds = []
    first_at = {}
    now = 1
    while now not in first_at:
        first_at[now] = len(rounds)
        rounds.append(now)
        now = round_behind(onward, now)
    return rounds, first_at[now]


def mask_of(numbers):
    """Return the integer that has the bits with these numbers."""
    mask = 0
    for number in numbers:
        mask = mask | (1 << number)
    return mask


def round_behind(onward, now):
    """Return the round behind a round, onward being what each member alone leads to."""
    behind = 0
    for number, mask in enumerate(onward):
        if has_bit(now, number):
            behind = behind | mask
    return behind


def has_bit(mask, number):
    """Tell whether an integer has the bit with a number."""
    return (mask >> number) & 1 == 1


def head_and_loop(book):
    """Return the pair (HEAD, LOOP)."""
    rounds, head = round_masks(book)
    return (head, len(rounds) - head)


def lengths(book, deed):
    """Return the ascending tuple of a member's lengths below HEAD + LOOP; raises NoMember(deed)."""
    number = number_of(book, deed)
    rounds = round_masks(book)[0]
    return tuple([t for t in range(len(rounds)) if has_bit(rounds[t], number)])


def has_length(book, deed, t):
    """Tell whether t, a number, is a length of a member; raises NoMember(deed)."""
    number = number_of(book, deed)
    rounds, head = round_masks(book)
    if t >= len(rounds):
        t = head + (t - head) % (len(rounds) - head)
    return has_bit(rounds[t], number)
