"""How many combinations some sets have, begin with given numbers or stand before one; and lists of few of them."""

from betwords.cards import MOST_RUNNERS


def product_of(numbers):
    """The product of some numbers."""
    product = 1
    for number in numbers:
        product *= number
    return product


def without(numbers, taken):
    """The numbers that aren't taken."""
    return [number for number in numbers if number not in taken]


def count_legs(sets, start):
    """How many rows begin with these numbers and have their i-th number of the i-th set."""
    if not is_of(sets, start):
        return 0
    return product_of([len(numbers) for numbers in sets[len(start):]])


def count_orders(sets, start):
    """How many rows of different numbers begin with these and have their i-th number of the i-th set."""
    if not is_of(sets, start) or len(set(start)) < len(start):
        return 0
    return count_different([without(numbers, start) for numbers in sets[len(start):]])


def is_of(sets, start):
    """Whether each of these numbers is of its set."""
    return all([number in numbers for number, numbers in zip(start, sets)])


def count_different(sets):
    """How many rows of different numbers have their i-th number of the i-th set."""
    # ways[mask]: how many rows fill just the mask's places with the numbers gone through so far.
    # A number fills one place at most; masks are gone through falling so that it isn't taken twice.
    full = (1 << len(sets)) - 1
    ways = [1] + [0 for mask in range(full)]
    for number in range(1, MOST_RUNNERS + 1):
        bits = [1 << place for place, numbers in enumerate(sets) if number in numbers]
        for mask in range(full, 0, -1):
            ways[mask] += sum([ways[mask - bit] for bit in bits if (mask & bit) != 0])
    return ways[full]


def picks_of(sets):
    """The rising rows of numbers, one taken from each set, each for another; each row once."""
    # Which set a number was taken from doesn't matter for the sets that follow.
    picks = [()]
    for numbers in sets:
        longer = {}
        for pick in picks:
            for number in numbers:
                if number not in pick:
                    longer[tuple(sorted(pick + (number,)))] = True
        picks = list(longer)
    return picks


def count_starts(rows):
    """How many of these rows begin with each start of them."""
    counts = {}
    for row in rows:
        for size in range(len(row) + 1):
            start = row[:size]
            counts[start] = counts.get(start, 0) + 1
    return counts


def choices(kind, numbers, start):
    """The numbers of a set that may follow this start in a pool of place, order or legs."""
    return without(numbers, start) if kind == "order" else numbers


def rows_through(kind, sets):
    """All rows of place, order or legs with their i-th number of the i-th set, in their order."""
    rows = [()]
    for numbers in sets:
        longer = []
        for row in rows:
            longer.extend([row + (number,) for number in choices(kind, numbers, row)])
        rows = longer
    return rows


def choose(many, size):
    """How many sets of this size can be taken from so many numbers."""
    ways = 1
    for taken in range(size):
        ways = ways * (many - taken) // (taken + 1)
    return ways


def count_before(kind, fields, row):
    """How many combinations of the pool with these fields stand before this one of them."""
    if kind == "any":
        return count_before_pick(fields[0], row)
    # In a whole pool as many rows begin with one start as with any other of its length.
    before = 0
    for place, number in enumerate(row):
        left = choices(kind, fields[place], row[:place])
        before = before * len(left) + left.index(number)
    return before


def count_before_pick(interests, row):
    """How many rising rows of these interests stand before this one."""
    # The rows behind it are easier to count: up to some place as this one, from there on any greater numbers.
    size = len(row)
    behind = 0
    for place, number in enumerate(row):
        greater = len(interests) - 1 - interests.index(number)
        behind += choose(greater, size - place)
    return choose(len(interests), size) - 1 - behind
