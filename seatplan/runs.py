"""Free runs: where they are, which one fits, and what shows that none does."""

from seatplan.hall import GAP, blocks_of


def runs_of(rows, taken):
    """The free runs of a hall, by rows, then by first places."""
    # A taken seat ends a run just as a gap ends a block.
    return blocks_of(with_taken(rows, taken, GAP))


def with_taken(rows, taken, sign):
    """The rows of a hall with the sign in the place of each taken seat."""
    shown = []
    for row, signs in enumerate(rows):
        places = [sign if (row, place) in taken else signs[place] for place in range(len(signs))]
        shown.append("".join(places))
    return shown


def fitting(runs, size):
    """The run with the fewest seats that has so many, of equal ones the first, or None."""
    best = None
    for run in runs:
        if run[2] >= size and (best is None or run[2] < best[2]):
            best = run
    return best


def longest_of(runs):
    """The run with the most seats, of equal ones the first, or None."""
    best = None
    for run in runs:
        if best is None or run[2] > best[2]:
            best = run
    return best


def marks_of(block, taken, size):
    """Taken places of a block, rising, so that any so many seats side by side have one."""
    # The block has no free run of so many seats, so any so many of them side by
    # side have a taken one: all the taken places of the block do, for each size.
    row, first, many = block
    return [place for place in range(first, first + many) if (row, place) in taken]


def spots_of(row, first, many):
    """So many spots side by side from a first place on."""
    return [(row, place) for place in range(first, first + many)]


def spots_apart(runs, size):
    """Spots for a group in as few of the runs as can be, by rows, then places.

    It is asked only where all runs together have enough seats.
    """
    left = list(runs)
    wanted = size
    spots = []
    run = fitting(left, wanted)
    while run is None:
        row, first, many = longest_of(left)
        left.remove((row, first, many))
        spots.extend(spots_of(row, first, many))
        wanted -= many
        run = fitting(left, wanted)
    spots.extend(spots_of(run[0], run[1], wanted))
    return sorted(spots)
