"""Halls: what one is, the blocks of its seats, and where a seat is."""

from seatplan.errors import BadHall

SEAT = "o"
GAP = "."
MOST_ROWS = 40
MOST_PLACES = 60


def need_hall(rows):
    """The rows of a hall as a list; what is no hall is refused with BadHall."""
    # Only a list is asked for its length: a hall may be handed in as anything.
    if not isinstance(rows, list) or not 1 <= len(rows) <= MOST_ROWS:
        raise BadHall("a hall is a list of one to forty rows")
    for signs in rows:
        need_row(signs)
    return list(rows)


def need_row(signs):
    """Refuses with BadHall what is no row of a hall."""
    if not isinstance(signs, str) or len(signs) > MOST_PLACES:
        raise BadHall("a row is a text of at most sixty signs")
    for sign in signs:
        if sign not in (SEAT, GAP):
            raise BadHall("a sign of a row is a seat or a gap")


def blocks_of(rows):
    """The blocks of a hall, by rows, then by first places."""
    blocks = []
    for row, signs in enumerate(rows):
        blocks.extend(blocks_of_row(row, signs))
    return blocks


def blocks_of_row(row, signs):
    """The blocks of one row, by first places."""
    blocks = []
    many = 0
    # A gap behind the last place ends a block that reaches the row's end.
    for place, sign in enumerate(signs + GAP):
        if sign == SEAT:
            many += 1
        elif many > 0:
            blocks.append((row, place - many, many))
            many = 0
    return blocks


def is_seat(rows, row, place):
    """True where the hall has a seat, else False, wherever the spot is."""
    # Python counts numbers below nought from the end, a hall does not.
    if not 0 <= row < len(rows) or not 0 <= place < len(rows[row]):
        return False
    return rows[row][place] == SEAT
