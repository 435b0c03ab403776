"""How many combinations a bet has, found without going through all of them."""

from betwords.cards import MOST_RUNNERS


def count_on(kind, sets):
    """How many combinations a bet on these sets has."""
    if kind == "order":
        return count_orders(sets)
    if kind == "any":
        return len(picks_of(sets))
    return product_of([len(numbers) for numbers in sets])


def count_box(kind, size, numbers):
    """How many combinations of the pool's size are made of these numbers alone."""
    if kind == "order":
        return rows_among(len(numbers), size)
    return picks_among(len(numbers), size)


def count_key(kind, size, bankers, others):
    """How many combinations have all the bankers, and else some of the others."""
    picks = picks_among(len(others), size - len(bankers))
    if kind == "order":
        return picks * rows_among(size, size)
    return picks


def product_of(numbers):
    """The product of some numbers."""
    product = 1
    for number in numbers:
        product *= number
    return product


def rows_among(many, size):
    """How many rows of different ones can be made of so many."""
    return product_of(list(range(many - size + 1, many + 1)))


def picks_among(many, size):
    """How many rising rows can be made of so many."""
    return rows_among(many, size) // rows_among(size, size)


def count_orders(sets):
    """How many rows of different numbers have their i-th number of the i-th set."""
    # ways[mask]: how many rows fill just the mask's places with the numbers gone through so far.
    # A number fills one place at most; masks are gone through falling so that it isn't taken twice.
    full = (1 << len(sets)) - 1
    ways = [1] + [0 for mask in range(full)]
    for number in range(1, MOST_RUNNERS + 1):
        bits = [1 << place for place, numbers in enumerate(sets) if number in numbers]
        for mask in range(full, 0, -1):
            ways[mask] += sum([ways[mask - bit] for bit in bits if (mask & bit) != 0])
    return ways[full]


def picks_of(sets):
    """The rising rows of numbers, one taken from each set, each for another; each row once."""
    # Which set a number was taken from doesn't matter for the sets that follow.
    picks = [()]
    for numbers in sets:
        longer = {}
        for pick in picks:
            for number in numbers:
                if number not in pick:
                    longer[tuple(sorted(pick + (number,)))] = True
        picks = list(longer)
    return picks
