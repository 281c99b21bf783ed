"""The refusals of Seatplan."""


class SeatError(ValueError):
    """Any refusal."""


class BadHall(SeatError):
    """What was handed in is no hall."""


class BadName(SeatError):
    """What was handed in is no name of a group."""


class BadSize(SeatError):
    """What was handed in is no size of a group."""


class Known(SeatError):
    """A group of that name is there already."""


class Unknown(SeatError):
    """No group has that name."""


class NoSeat(SeatError):
    """A spot is no seat of the hall."""


class Taken(SeatError):
    """Another group has that seat."""


class NoRoom(SeatError):
    """There are not the free seats that are wanted."""


class Room(SeatError):
    """There is room, so no marks show that there is none."""


class Nothing(SeatError):
    """No deed is left that could be taken back."""


class BadLine(SeatError):
    """A written line is not in the form of one."""
