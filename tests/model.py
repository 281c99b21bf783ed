"""A second plan, made straight from the words of the document, to compare with."""

import re

from seatplan.errors import BadName, BadSize, Known, NoRoom, NoSeat, Nothing, Room, Taken, Unknown


class Model:
    def __init__(self, rows):
        self.rows = list(rows)
        self.held = []
        self.kept = []

    def holder(self, spot):
        for name, spots in self.held:
            if spot in spots:
                return name
        return None

    def drawn(self):
        return [
            "".join("#" if self.holder((row, place)) is not None else sign for place, sign in enumerate(signs))
            for row, signs in enumerate(self.rows)
        ]

    def free(self):
        return [
            (row, found.start(), len(found.group()))
            for row, signs in enumerate(self.drawn())
            for found in re.finditer("o+", signs)
        ]

    def fit(self, runs, size):
        enough = [run for run in runs if run[2] >= size]
        enough.sort(key=lambda run: run[2])
        return enough[0] if enough else None

    def need_new(self, name, size, names):
        if type(name) is not str or re.fullmatch("[a-z0-9-]{1,12}", name) is None:
            raise BadName
        if type(size) is not int or size not in range(1, 2401):
            raise BadSize
        if name in names:
            raise Known

    def names(self):
        return [name for name, _ in self.held]

    def place_of(self, name):
        if type(name) is not str or name not in self.names():
            raise Unknown
        return self.names().index(name)

    def done(self, held):
        self.kept.append(self.held)
        self.held = held

    def sit(self, name, size):
        self.need_new(name, size, self.names())
        run = self.fit(self.free(), size)
        if run is None:
            raise NoRoom
        spots = [(run[0], run[1] + at) for at in range(size)]
        self.done(self.held + [(name, spots)])
        return spots

    def party(self, pairs):
        names = self.names()
        for name, size in pairs:
            self.need_new(name, size, names)
            names.append(name)
        if pairs == []:
            return []
        run = self.fit(self.free(), sum(size for _, size in pairs))
        if run is None:
            raise NoRoom
        places = iter(range(run[1], run[1] + run[2]))
        come = [(name, [(run[0], next(places)) for _ in range(size)]) for name, size in pairs]
        self.done(self.held + come)
        return [spots for _, spots in come]

    def apart(self, name, size):
        self.need_new(name, size, self.names())
        runs = self.free()
        if sum(run[2] for run in runs) < size:
            raise NoRoom
        spots = []
        while max(run[2] for run in runs) < size - len(spots):
            most = max(run[2] for run in runs)
            first = [run for run in runs if run[2] == most][0]
            runs = [run for run in runs if run != first]
            spots += [(first[0], first[1] + at) for at in range(most)]
        rest = size - len(spots)
        run = self.fit(runs, rest)
        spots = sorted(spots + [(run[0], run[1] + at) for at in range(rest)])
        self.done(self.held + [(name, spots)])
        return spots

    def leave(self, name):
        at = self.place_of(name)
        self.done(self.held[:at] + self.held[at + 1:])
        return self.kept[-1][at][1]

    def shift(self, name, row, first):
        at = self.place_of(name)
        spots = [(row, first + more) for more in range(len(self.held[at][1]))]
        seats = [(row, place) for row, signs in enumerate(self.rows) for place, sign in enumerate(signs) if sign == "o"]
        if any(spot not in seats for spot in spots):
            raise NoSeat
        if any(self.holder(spot) not in (None, name) for spot in spots):
            raise Taken
        self.done(self.held[:at] + [(name, spots)] + self.held[at + 1:])
        return spots

    def back(self):
        if not self.kept:
            raise Nothing
        self.held = self.kept.pop()

    def marked_blocks(self, size):
        if type(size) is not int or size not in range(1, 2401):
            raise BadSize
        if self.fit(self.free(), size) is not None:
            raise Room
        return [
            (row, found.start(), len(found.group()))
            for row, signs in enumerate(self.rows)
            for found in re.finditer("o+", signs)
        ]
