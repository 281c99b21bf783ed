"""Plans: a hall, its groups, and the deeds that give them their seats."""

from seatplan.errors import Known, NoRoom, NoSeat, Nothing, Room, Taken, Unknown
from seatplan.hall import blocks_of, is_seat, need_hall
from seatplan.names import is_name, need_name, need_size
from seatplan.runs import fitting, marks_of, runs_of, spots_apart, spots_of


class Plan:
    """A hall and the groups that have seats in it."""

    def __init__(self, rows):
        self.hall = need_hall(rows)
        # Pairs of a name and its spots, in the order in which the groups came.
        self._groups = []
        # What takes each deed back: where among the groups it was done, the
        # groups that were there ahead of it, and those that are there since.
        self._deeds = []

    def sit(self, name, size):
        """Seats a group together; its spots."""
        return self.party([(name, size)])[0]

    def party(self, pairs):
        """Seats groups beside one another in one free run; the spots of each."""
        self._need_new(pairs)
        if not pairs:
            return []
        run = fitting(self.free(), sum([size for name, size in pairs]))
        if run is None:
            raise NoRoom("no free run has so many seats")
        come = groups_in(run, pairs)
        self._do(len(self._groups), [], come)
        return [list(spots) for name, spots in come]

    def apart(self, name, size):
        """Seats a group in as few free runs as can be; its spots."""
        self._need_new([(name, size)])
        runs = self.free()
        if sum([many for row, first, many in runs]) < size:
            raise NoRoom("fewer seats are free")
        spots = spots_apart(runs, size)
        self._do(len(self._groups), [], [(name, spots)])
        return list(spots)

    def leave(self, name):
        """Frees the seats of a group; their spots."""
        at = self._need_known(name)
        group = self._groups[at]
        self._do(at, [group], [])
        return list(group[1])

    def shift(self, name, row, first):
        """Seats a group anew, side by side from a first place on; its spots."""
        at = self._need_known(name)
        held, ahead = self._groups[at]
        spots = spots_of(row, first, len(ahead))
        # All seats are looked at for NoSeat ahead of Taken.
        for spot in spots:
            self._need_seat(spot)
        taken = self.taken()
        for spot in spots:
            if taken.get(spot, held) != held:
                raise Taken("another group has that seat")
        self._do(at, [(held, ahead)], [(held, spots)])
        return list(spots)

    def back(self):
        """Takes back the last deed that is not yet taken back."""
        if not self._deeds:
            raise Nothing("no deed is left that could be taken back")
        at, gone, come = self._deeds.pop()
        self._groups[at:at + len(come)] = gone

    def free(self):
        """The free runs."""
        return runs_of(self.hall, self.taken())

    def marks(self, size):
        """For each block what shows that no group of the size has room."""
        need_size(size)
        if fitting(self.free(), size) is not None:
            raise Room("a group of that size has room")
        taken = self.taken()
        return [
            (row, first, many, marks_of((row, first, many), taken, size))
            for row, first, many in blocks_of(self.hall)
        ]

    def groups(self):
        """The names, in the order in which the groups came."""
        return [name for name, spots in self._groups]

    def seats(self, name):
        """The spots of a group."""
        return list(self._groups[self._need_known(name)][1])

    def who(self, row, place):
        """The name of the group that has a seat, or None for a free one."""
        self._need_seat((row, place))
        return self.taken().get((row, place))

    def taken(self):
        """The spots that are taken, each with the name of its group."""
        return {spot: name for name, spots in self._groups for spot in spots}

    def settle(self, name, spots):
        """Gives a new group just these spots; this is no deed."""
        need_name(name)
        need_unused(name, self.groups())
        taken = self.taken()
        for spot in spots:
            self._need_seat(spot)
            if spot in taken:
                raise Taken("another group has that seat")
        self._groups.append((name, list(spots)))

    def _do(self, at, gone, come):
        """Puts groups in the place of others, as a deed that can be taken back."""
        self._groups[at:at + len(gone)] = come
        self._deeds.append((at, gone, come))

    def _need_new(self, pairs):
        """Looks one by one at the groups of a party."""
        used = self.groups()
        for name, size in pairs:
            need_name(name)
            need_size(size)
            need_unused(name, used)
            used.append(name)

    def _need_known(self, name):
        """Where among the groups the one of that name is; refuses with Unknown."""
        names = self.groups()
        # What is no name may still call itself equal to one.
        if not is_name(name) or name not in names:
            raise Unknown("no group has that name")
        return names.index(name)

    def _need_seat(self, spot):
        """Refuses with NoSeat a spot that is no seat of the hall."""
        if not is_seat(self.hall, spot[0], spot[1]):
            raise NoSeat("that spot is no seat")


def need_unused(name, used):
    """Refuses with Known a name that is used already."""
    if name in used:
        raise Known("a group of that name is there")


def groups_in(run, pairs):
    """The groups of a party on the first seats of a run, one right behind the other."""
    row, first, _ = run
    groups = []
    for name, size in pairs:
        groups.append((name, spots_of(row, first, size)))
        first += size
    return groups
