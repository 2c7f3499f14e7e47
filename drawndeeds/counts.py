"""How many words of a length do each member, and of which lengths there are some."""

from drawndeeds.heaps import number_among, walked


def word_counts(book, t):
    """Return the tuple that tells for each member how many words of t letters do it."""
    right = walked(book).right
    counts, before = {0: 1}, {}
    while t > 0 and 4 * len(counts) < 3 * len(right) and not are_among(counts, before):
        counts, before = spread(right, counts), counts
        t -= 1
    if t > 0:
        # Where no member has come in with the last letter, none comes in with any further one.
        numbers = list(counts) if are_among(counts, before) else list(range(len(right)))
        counts = gathered(right, numbers, counts, t)
    return tuple([counts.get(number, 0) for number in range(len(right))])


def are_among(counts, before):
    """Tell whether all numbers of a dict are among those of another one."""
    return len(counts) <= len(before) and all([number in before for number in counts])


def spread(right, counts):
    """Return the dict of the counts for words of one letter more, for those members that have some."""
    longer = {}
    for number, count in counts.items():
        for led in right[number]:
            longer[led] = longer.get(led, 0) + count
    return longer


def gathered(right, numbers, counts, t):
    """Return the dict of the counts for words of t letters more of some members, which are led to such alone."""
    own, first, second, others = sources_among(right, numbers)
    told = [counts.get(number, 0) for number in numbers]
    for _ in range(t):
        # Behind them stands the 0 that is taken where there is no further source.
        told.append(0)
        if own is None:
            longer = [told[one] + told[other] for one, other in zip(first, second)]
        else:
            longer = [count * many + told[one] + told[other]
                      for count, many, one, other in zip(told, own, first, second)]
        for source, at in others:
            longer[at] += told[source]
        told = longer
    return {number: count for number, count in zip(numbers, told)}


def sources_among(right, numbers):
    """Return how some members are led to each other by right steps; all are told by where they stand among numbers.

    That is for each how many steps lead it to itself, or None if none does so; from where the first other one leads,
    and the second one, or the end of numbers; and the list of the pairs of from where to where all further ones lead.
    """
    places = {number: at for at, number in enumerate(numbers)}
    own = [right[number].count(number) for number in numbers]
    rows = [[] for _ in numbers]
    for at, number in enumerate(numbers):
        for led in right[number]:
            if led != number:
                rows[places[led]].append(at)
    rows = [row if len(row) > 1 else row + [len(rows)] * 2 for row in rows]
    others = [(source, at) for at, row in enumerate(rows) for source in row[2:] if source < len(rows)]
    return own if any(own) else None, [row[0] for row in rows], [row[1] for row in rows], others


def round_masks(walk, last=None):
    """Return the list of the rounds below HEAD + LOOP, and HEAD; if there is a last one, none that are behind it.

    A round is an integer: its bit k tells whether member k is in it.
    """
    onward = step_masks(walk.right)
    rounds = []
    first_at = {}
    now = 1
    while now not in first_at and len(rounds) != last:
        first_at[now] = len(rounds)
        rounds.append(now)
        now = round_behind(onward, now)
    return rounds, first_at.get(now)


def step_masks(right):
    """Return for each member the integer that has the bits of the members to which its steps lead."""
    bits = [1 << number for number in range(len(right))]
    masks = []
    for row in right:
        mask = 0
        for number in row:
            mask = mask | bits[number]
        masks.append(mask)
    return masks


def round_behind(onward, now):
    """Return the round behind a round, onward being what each member alone leads to."""
    behind = 0
    for sign, mask in zip(f"{now:b}"[::-1], onward):
        if sign == "1":
            behind = behind | mask
    return behind


def has_bit(mask, number):
    """Tell whether an integer has the bit with a number."""
    return (mask >> number) & 1 == 1


def head_and_loop(book):
    """Return the pair (HEAD, LOOP)."""
    rounds, head = round_masks(walked(book))
    return (head, len(rounds) - head)


def lengths(book, deed):
    """Return the ascending tuple of a member's lengths below HEAD + LOOP; raises NoMember(deed)."""
    walk = walked(book)
    number = number_among(walk.numbers, book[0], deed)
    rounds = round_masks(walk)[0]
    return tuple([t for t, mask in enumerate(rounds) if has_bit(mask, number)])


def has_length(book, deed, t):
    """Tell whether t, a number, is a length of a member; raises NoMember(deed)."""
    walk = walked(book)
    number = number_among(walk.numbers, book[0], deed)
    rounds, head = round_masks(walk, t + 1)
    if t >= len(rounds):
        t = head + (t - head) % (len(rounds) - head)
    return has_bit(rounds[t], number)
