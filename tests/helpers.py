"""What several of the test files share."""

import fractions
import unittest

from seatplan.errors import Nothing


class SameAsAll:
    """A thing that calls itself equal to whatever it is compared with."""

    def __eq__(self, other):
        return True

    def __hash__(self):
        return hash("anna")


class NoKey:
    """A thing that can be no key of a dict."""

    __hash__ = None


GOOD_NAMES = ["a", "z", "0", "9", "-", "anna", "abcdefghijkl", "mnopqrstuvwx", "yz0123456789", "-" * 12, "a-1", "007"]

TEXTS_THAT_ARE_NO_NAMES = [
    "", "a" * 13, "abcdefghijklm", "a" * 1000, "Anna", "ANNA", "annA", "Z", "an na", " anna", "anna ", " ",
    "anna\n", "\n", "\tanna", "a_b", "a.b", "a:b", "a: b", "a#", "a/", "a,", "`", "{", "@", "[", "\0", "a\0",
    "\u00e4", "\u00df", "\u017f", "\uff41", "\u0430nna", "\u0663", "\u00b2", "\u2010", "\u212a", "a\u0301", "\ud800",
]

OTHER_THINGS_AS_NAMES = [
    None, True, False, 0, 1, -1, 12, 1.5, b"anna", b"", bytearray(b"anna"), ["anna"], ["a"], [], ("anna",), (),
    {"anna": 1}, {}, {"anna"}, frozenset({"anna"}), range(3), object(), str, iter(["a"]), SameAsAll(), NoKey(),
]

WRONG_NAMES = TEXTS_THAT_ARE_NO_NAMES + OTHER_THINGS_AS_NAMES

WRONG_SIZES = [
    0, -1, -2, -2400, 2401, 2402, 10 ** 6, 2 ** 63, 10 ** 5000, -10 ** 5000, True, False, None, 1.0, 2.0, 2.5,
    float("nan"), float("inf"), 1j, fractions.Fraction(2), "1", "", "2", b"1", b"", [1], [], (1,), (), {1: 1}, {},
    {1}, range(1), object(), int, SameAsAll(), NoKey(),
]

WRONG_HALLS = [
    [], ["o"] * 41, ["o" * 61], ["oo", "." * 61], ["ox"], ["oo", "O"], ["#"], ["o o"], ["o\n"], ["\u043e"], [None],
    ["oo", 1], [["o"]], [("o",)], [b"o"], ("o",), (), "o", "", b"o", {}, {"o": "o"}, {0: "o"}, {"o"}, None, 0, 1,
    True, False, 1.5, range(2), object(), list, SameAsAll(), NoKey(),
]


def picture(plan):
    """All that a plan tells of its hall and its groups."""
    names = plan.groups()
    holders = {}
    for row, signs in enumerate(plan.hall):
        for place, sign in enumerate(signs):
            if sign == "o":
                holders[(row, place)] = plan.who(row, place)
    return list(plan.hall), names, [plan.seats(name) for name in names], plan.free(), holders


def trail(plan):
    """The pictures of a plan while all that can be taken back is taken back."""
    pictures = [picture(plan)]
    while True:
        try:
            plan.back()
        except Nothing:
            return pictures
        pictures.append(picture(plan))


class DeedTest(unittest.TestCase):
    def refused(self, error, made, asked):
        """What is asked of a plan is refused with just this error and changes nothing."""
        plan = made()
        with self.assertRaises(error) as caught:
            asked(plan)
        self.assertIs(type(caught.exception), error)
        self.assertEqual(trail(plan), trail(made()))

    def check_spots(self, told, spots):
        """A list of tuples of two whole numbers, just these ones."""
        self.assertIs(type(told), list)
        self.assertEqual(told, spots)
        for spot in told:
            self.assertIs(type(spot), tuple)
            self.assertEqual([type(part) for part in spot], [int, int])

    def check_runs(self, told, runs):
        """A list of tuples of three whole numbers, just these ones."""
        self.assertIs(type(told), list)
        self.assertEqual(told, runs)
        for run in told:
            self.assertIs(type(run), tuple)
            self.assertEqual([type(part) for part in run], [int, int, int])


def side_by_side(row, first, many):
    """So many spots of a row from a first place on."""
    return [(row, first + at) for at in range(many)]
