import itertools
import re
import unittest

from seatplan.hall import blocks_of


def blocks_by_pattern(rows):
    return [
        (row, found.start(), len(found.group()))
        for row, signs in enumerate(rows)
        for found in re.finditer("o+", signs)
    ]


def all_rows(most):
    for many in range(most + 1):
        for signs in itertools.product("o.", repeat=many):
            yield "".join(signs)


class BlocksTest(unittest.TestCase):
    def check(self, rows, blocks):
        ahead = list(rows)
        found = blocks_of(rows)
        self.assertIs(type(found), list)
        self.assertEqual(found, blocks)
        self.assertEqual(rows, ahead)
        for block in found:
            self.assertIs(type(block), tuple)
            self.assertEqual([type(part) for part in block], [int, int, int])

    def test_a_row_without_gaps(self):
        self.check(["o"], [(0, 0, 1)])
        self.check(["ooo"], [(0, 0, 3)])
        self.check(["o" * 60], [(0, 0, 60)])

    def test_gaps_at_the_beginning(self):
        self.check([".oo"], [(0, 1, 2)])
        self.check(["...o"], [(0, 3, 1)])
        self.check(["." * 59 + "o"], [(0, 59, 1)])

    def test_gaps_at_the_end(self):
        self.check(["oo."], [(0, 0, 2)])
        self.check(["o..."], [(0, 0, 1)])
        self.check(["o" + "." * 59], [(0, 0, 1)])

    def test_gaps_between(self):
        self.check(["oo.ooo"], [(0, 0, 2), (0, 3, 3)])
        self.check(["o.o.o"], [(0, 0, 1), (0, 2, 1), (0, 4, 1)])

    def test_several_gaps_side_by_side(self):
        self.check(["oo..ooo"], [(0, 0, 2), (0, 4, 3)])
        self.check(["..o....oo.."], [(0, 2, 1), (0, 7, 2)])

    def test_rows_of_gaps_alone(self):
        self.check(["."], [])
        self.check(["...", "." * 60], [])

    def test_empty_rows(self):
        self.check([""], [])
        self.check(["", "", ""], [])
        self.check(["", "oo", "", "o"], [(1, 0, 2), (3, 0, 1)])

    def test_a_block_that_ends_with_the_last_place(self):
        self.check([".oo", "oo"], [(0, 1, 2), (1, 0, 2)])
        self.check(["o.o", "o.o"], [(0, 0, 1), (0, 2, 1), (1, 0, 1), (1, 2, 1)])

    def test_several_rows_in_their_order(self):
        self.check(
            ["o.oo", "ooooo", "...", "..o", "ooo.o."],
            [(0, 0, 1), (0, 2, 2), (1, 0, 5), (3, 2, 1), (4, 0, 3), (4, 4, 1)],
        )

    def test_the_order_is_not_the_order_of_lengths(self):
        self.check(["ooo.o.oo", "o"], [(0, 0, 3), (0, 4, 1), (0, 6, 2), (1, 0, 1)])

    def test_rows_behind_the_tenth_stand_in_their_order(self):
        self.check(["o.o"] * 40, [(row, first, 1) for row in range(40) for first in (0, 2)])
        self.check(["o." * 30], [(0, first, 1) for first in range(0, 60, 2)])

    def test_the_largest_hall(self):
        self.check(["o" * 60] * 40, [(row, 0, 60) for row in range(40)])

    def test_every_short_row(self):
        for signs in all_rows(9):
            self.check([signs], blocks_by_pattern([signs]))

    def test_every_hall_of_two_short_rows(self):
        for first in all_rows(4):
            for second in all_rows(4):
                self.check([first, second], blocks_by_pattern([first, second]))

    def test_as_many_seats_as_the_hall(self):
        for signs in all_rows(8):
            rows = [signs, "oo.", signs + "o"]
            seats = sum(signs.count("o") for signs in rows)
            self.assertEqual(sum(many for _, _, many in blocks_of(rows)), seats)

    def test_asked_again_it_tells_the_same(self):
        rows = ["oo.o", "o"]
        blocks = [(0, 0, 2), (0, 3, 1), (1, 0, 1)]
        self.check(rows, blocks)
        self.check(["o"], [(0, 0, 1)])
        self.check(rows, blocks)


if __name__ == "__main__":
    unittest.main()
