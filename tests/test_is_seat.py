import unittest

from seatplan.hall import is_seat

ROWS = ["oo.o", ".o", "", "ooooo.", "..."]
LARGE = [10 ** 3, 10 ** 9, 2 ** 31, 2 ** 63 - 1, 2 ** 63, 2 ** 64, 10 ** 40]


class SeatsTest(unittest.TestCase):
    def check(self, row, place, told):
        ahead = list(ROWS)
        self.assertIs(is_seat(ROWS, row, place), told)
        self.assertEqual(ROWS, ahead)

    def test_seats(self):
        for row, place in [(0, 0), (0, 1), (0, 3), (1, 1), (3, 0), (3, 4)]:
            with self.subTest(row=row, place=place):
                self.check(row, place, True)

    def test_gaps(self):
        for row, place in [(0, 2), (1, 0), (3, 5), (4, 0), (4, 1), (4, 2)]:
            with self.subTest(row=row, place=place):
                self.check(row, place, False)

    def test_a_place_behind_the_end_of_the_row(self):
        for row, signs in enumerate(ROWS):
            for more in range(3):
                with self.subTest(row=row, more=more):
                    self.check(row, len(signs) + more, False)

    def test_a_place_that_only_another_row_has(self):
        self.check(1, 2, False)
        self.check(1, 3, False)
        self.check(0, 4, False)
        self.check(2, 0, False)

    def test_a_row_behind_the_last_one(self):
        for row in (5, 6, 40, 100):
            for place in (0, 1, 60):
                with self.subTest(row=row, place=place):
                    self.check(row, place, False)

    def test_rows_below_nought(self):
        for row in range(-7, 0):
            for place in (-1, 0, 1):
                with self.subTest(row=row, place=place):
                    self.check(row, place, False)

    def test_places_below_nought(self):
        for row in range(len(ROWS)):
            for place in range(-7, 0):
                with self.subTest(row=row, place=place):
                    self.check(row, place, False)

    def test_very_large_numbers_either_way(self):
        for large in LARGE + [-large for large in LARGE]:
            with self.subTest(large=large):
                self.check(large, 0, False)
                self.check(0, large, False)
                self.check(large, large, False)
                self.check(large, -large, False)
                self.check(-large, large, False)

    def test_every_spot_of_the_hall_and_around_it(self):
        seats = [(row, place) for row, signs in enumerate(ROWS) for place, sign in enumerate(signs) if sign == "o"]
        for row in range(-8, 9):
            for place in range(-8, 9):
                with self.subTest(row=row, place=place):
                    self.check(row, place, (row, place) in seats)

    def test_the_largest_hall(self):
        rows = ["o" * 60] * 40
        self.assertIs(is_seat(rows, 39, 59), True)
        self.assertIs(is_seat(rows, 0, 0), True)
        self.assertIs(is_seat(rows, 40, 59), False)
        self.assertIs(is_seat(rows, 39, 60), False)

    def test_a_hall_of_one_empty_row(self):
        for row in (-1, 0, 1):
            for place in (-1, 0, 1):
                self.assertIs(is_seat([""], row, place), False)


if __name__ == "__main__":
    unittest.main()
