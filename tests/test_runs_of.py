import itertools
import re

from helpers import DeedTest
from seatplan.hall import blocks_of
from seatplan.runs import runs_of


class RunsTest(DeedTest):
    def check(self, rows, spots, runs):
        taken = {spot: "anna" for spot in spots}
        rows_ahead = list(rows)
        taken_ahead = list(taken.items())
        self.check_runs(runs_of(rows, taken), runs)
        self.assertEqual(rows, rows_ahead)
        self.assertEqual(list(taken.items()), taken_ahead)

    def test_none_taken_they_are_the_blocks(self):
        for rows in [["ooo"], ["oo.ooo", ".oo"], ["", "...", "o"], ["."], ["o" * 60] * 40]:
            self.check(rows, [], blocks_of(rows))

    def test_taken_at_the_beginning_of_a_block(self):
        self.check(["oooo"], [(0, 0)], [(0, 1, 3)])
        self.check(["oooo"], [(0, 0), (0, 1)], [(0, 2, 2)])
        self.check([".ooo.oo"], [(0, 1), (0, 5)], [(0, 2, 2), (0, 6, 1)])

    def test_taken_in_the_middle_of_a_block(self):
        self.check(["ooooo"], [(0, 2)], [(0, 0, 2), (0, 3, 2)])
        self.check(["ooooo"], [(0, 1), (0, 3)], [(0, 0, 1), (0, 2, 1), (0, 4, 1)])
        self.check(["ooooo"], [(0, 1), (0, 2)], [(0, 0, 1), (0, 3, 2)])

    def test_taken_at_the_end_of_a_block(self):
        self.check(["oooo"], [(0, 3)], [(0, 0, 3)])
        self.check(["oooo."], [(0, 2), (0, 3)], [(0, 0, 2)])
        self.check(["oo.oo"], [(0, 1), (0, 4)], [(0, 0, 1), (0, 3, 1)])

    def test_all_taken(self):
        self.check(["oo.o"], [(0, 0), (0, 1), (0, 3)], [])
        self.check(["o", "o"], [(0, 0), (1, 0)], [])
        rows = ["o" * 60] * 40
        self.check(rows, [(row, place) for row in range(40) for place in range(60)], [])

    def test_one_block_taken_and_another_not(self):
        self.check(["oo.oo", "oo"], [(0, 3), (0, 4)], [(0, 0, 2), (1, 0, 2)])
        self.check(["oo.oo", "oo"], [(0, 0), (0, 1)], [(0, 3, 2), (1, 0, 2)])

    def test_the_same_place_of_another_row_stays_free(self):
        self.check(["ooo", "ooo", "ooo"], [(1, 1)], [(0, 0, 3), (1, 0, 1), (1, 2, 1), (2, 0, 3)])
        self.check(["ooo", "ooo"], [(0, 1)], [(0, 0, 1), (0, 2, 1), (1, 0, 3)])

    def test_they_stand_by_rows_then_by_first_places(self):
        self.check(
            ["oooooo", "o.oo", "ooo"],
            [(2, 0), (0, 3), (0, 1)],
            [(0, 0, 1), (0, 2, 1), (0, 4, 2), (1, 0, 1), (1, 2, 2), (2, 1, 2)],
        )
        self.check(["o.o"] * 40, [(row, 2) for row in range(0, 40, 2)],
                   [(row, first, 1) for row in range(40) for first in (0, 2) if row % 2 == 1 or first == 0])

    def test_the_order_of_the_taken_spots_tells_nothing(self):
        spots = [(0, 1), (1, 0), (0, 4)]
        for some in itertools.permutations(spots):
            self.check(["ooooo", "oo"], some, [(0, 0, 1), (0, 2, 2), (1, 1, 1)])

    def test_the_keys_are_taken_whatever_they_hold(self):
        for held in (None, False, True, 0, 1, "", "anna", []):
            with self.subTest(held=held):
                self.check_runs(runs_of(["ooo"], {(0, 1): held}), [(0, 0, 1), (0, 2, 1)])

    def test_each_short_row_and_each_taking_of_its_seats(self):
        for many in range(8):
            for shown in itertools.product("o.#", repeat=many):
                shown = "".join(shown)
                spots = [(0, place) for place, sign in enumerate(shown) if sign == "#"]
                runs = [(0, found.start(), len(found.group())) for found in re.finditer("o+", shown)]
                self.check([shown.replace("#", "o")], spots, runs)
