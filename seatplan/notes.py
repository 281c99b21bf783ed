"""Notes: plans drawn as rows of signs, written as lines, and read again."""

from seatplan.errors import BadLine
from seatplan.plan import Plan
from seatplan.runs import with_taken

TAKEN_SEAT = "#"
BEHIND_NAME = ": "
FIGURES = "0123456789"


def drawn(plan):
    """The rows of the plan's hall with a sign for each taken seat."""
    return with_taken(plan.hall, plan.taken(), TAKEN_SEAT)


def written(plan):
    """A line for each group, in the order in which they came."""
    return [line_of(name, plan.seats(name)) for name in plan.groups()]


def line_of(name, spots):
    """The line of one group."""
    words = [f"{row}.{place}" for row, place in spots]
    return name + BEHIND_NAME + " ".join(words)


def read(rows, lines):
    """The plan of a hall with the groups of the lines, and no deed to take back."""
    plan = Plan(rows)
    for line in lines:
        name, spots = group_of(line)
        plan.settle(name, spots)
    return plan


def group_of(line):
    """The name and the spots that a line tells; refuses with BadLine."""
    parts = line.split(BEHIND_NAME)
    if len(parts) != 2:
        raise BadLine("a colon with a blank right behind it stands just once")
    name, words = parts
    spots = [spot_of(word) for word in words.split(" ")]
    for at in range(1, len(spots)):
        if spots[at - 1] >= spots[at]:
            raise BadLine("the seats of a line rise")
    return name, spots


def spot_of(word):
    """The spot that a word of a line tells; refuses with BadLine."""
    numbers = word.split(".")
    if len(numbers) != 2:
        raise BadLine("a seat is a row, a point and a place")
    return number_of(numbers[0]), number_of(numbers[1])


def number_of(figures):
    """The number that one or two figures tell; refuses with BadLine."""
    if not 1 <= len(figures) <= 2:
        raise BadLine("a number has one or two figures")
    for sign in figures:
        # Python reads signs of other scripts as figures, too.
        if sign not in FIGURES:
            raise BadLine("a number has figures alone")
    if len(figures) == 2 and figures[0] == "0":
        raise BadLine("no nought stands ahead of another figure")
    return int(figures)
