"""The combinations of a bet or a pool as rows, in their order: how many there are, which, how many in common."""

from betwords.counts import count_legs, count_orders, count_starts, picks_of, rows_through


class Rows:
    """The combinations of bets on some grids (each a list of sets), no two of which have one in common."""

    def __init__(self, kind, grids):
        self.kind = kind
        self.grids = grids
        # There are few picks but no quick way to count them, so they're counted once for all starts.
        self.picks = count_starts(picks_of(grids[0])) if kind == "any" else {}

    def starting(self, start):
        """How many of the rows begin with these numbers (a tuple); of a whole row 1 or 0."""
        if self.kind == "any":
            return self.picks.get(start, 0)
        if self.kind == "order":
            return sum([count_orders(grid, start) for grid in self.grids])
        return sum([count_legs(grid, start) for grid in self.grids])

    def row_at(self, i):
        """The i-th of the rows, from 0; i is below how many there are."""
        row = ()
        left = i
        while len(row) < len(self.grids[0]):
            number = 1
            here = self.starting(row + (number,))
            while left >= here:
                left -= here
                number += 1
                here = self.starting(row + (number,))
            row = row + (number,)
        return row

    def listed(self):
        """All the rows, in their order; to be asked where they are few."""
        if self.kind == "any":
            return sorted([start for start in self.picks if len(start) == len(self.grids[0])])
        found = []
        for grid in self.grids:
            found.extend(rows_through(self.kind, grid))
        return sorted(found)


def rows_on(kind, sets):
    """The combinations of a bet on these sets; on a pool's fields they are all of the pool."""
    return Rows(kind, [sets])


def rows_box(kind, size, numbers):
    """The combinations of the pool's size that are made of these numbers alone."""
    return Rows(kind, [[numbers for place in range(size)]])


def rows_key(kind, size, bankers, others):
    """The combinations that have all the bankers, and else some of the others."""
    grids = seatings(size, bankers, others)
    if kind == "any":
        # Places are all one there: each seating has all the combinations.
        return Rows(kind, grids[:1])
    return Rows(kind, grids)


def seatings(size, bankers, others):
    """For each way to give the bankers places: the sets with them there, and the others elsewhere."""
    grids = [[others for place in range(size)]]
    for banker in bankers:
        seated = []
        for grid in grids:
            for place in range(size):
                if grid[place] == others:
                    seated.append(grid[:place] + [[banker]] + grid[place + 1:])
        grids = seated
    return grids


def count_common(rows, others):
    """How many rows of one pool are in both."""
    if rows.kind == "any":
        return sum([others.starting(row) for row in rows.listed()])
    # No row is in two grids of the same bet, so none is in two meetings.
    meetings = []
    for grid in rows.grids:
        for other in others.grids:
            meetings.append(meeting(grid, other))
    return Rows(rows.kind, meetings).starting(())


def meeting(grid, other):
    """The sets of the numbers that both have at the same place."""
    return [common(numbers, theirs) for numbers, theirs in zip(grid, other)]


def common(numbers, others):
    """The numbers that are in both."""
    return [number for number in numbers if number in others]
