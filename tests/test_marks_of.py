import itertools
import unittest

from seatplan.runs import marks_of


class MarksOfTest(unittest.TestCase):
    def check(self, block, places, size, around=()):
        row, first, many = block
        taken = {(row, place): "anna" for place in places}
        taken.update({spot: "bob" for spot in around})
        ahead = dict(taken)
        marks = marks_of(block, taken, size)
        self.assertIs(type(marks), list)
        self.assertEqual([type(mark) for mark in marks], [int] * len(marks))
        self.assertEqual(marks, sorted(set(marks)))
        for mark in marks:
            self.assertIn(mark, range(first, first + many))
            self.assertIn((row, mark), taken)
        for start in range(first, first + many - size + 1):
            self.assertTrue(any(start <= mark < start + size for mark in marks), (block, places, size, marks))
        self.assertEqual(taken, ahead)

    def test_size_one_where_each_seat_is_taken(self):
        for many in range(1, 61):
            self.check((0, 0, many), range(many), 1)

    def test_one_taken_seat_in_the_middle(self):
        self.check((0, 0, 3), [1], 2)
        self.check((0, 0, 5), [2], 3)
        self.check((7, 20, 9), [24], 5)

    def test_sizes_that_more_than_fill_the_block(self):
        for size in (4, 5, 60, 61, 2400):
            self.check((0, 0, 3), [], size)
            self.check((0, 0, 3), [0], size)
            self.check((0, 5, 3), [5, 6, 7], size)

    def test_the_size_of_the_whole_block(self):
        for place in range(10, 16):
            self.check((2, 10, 6), [place], 6)

    def test_taken_seats_of_other_rows_and_blocks_are_no_marks(self):
        around = [(0, 4), (0, 5), (2, 4), (1, 2), (1, 8), (4, 1), (5, 1)]
        self.check((1, 4, 3), [5], 2, around)
        self.check((1, 4, 3), [], 4, around)
        self.check((1, 4, 3), [4, 5, 6], 1, around)

    def test_the_keys_are_taken_whatever_they_hold(self):
        for held in (None, False, 0, "", "anna"):
            self.assertEqual(marks_of((3, 2, 3), {(3, 3): held}, 2), [3])

    def test_rows_and_places_up_to_a_hundred(self):
        self.check((100, 0, 100), range(4, 100, 5), 5)
        self.check((99, 40, 60), range(40, 100, 10), 10)
        self.check((100, 100, 1), [100], 1)

    def test_each_short_block_each_taking_and_each_size(self):
        for many in range(1, 9):
            for shown in itertools.product("o#", repeat=many):
                places = [place for place, sign in enumerate(shown) if sign == "#"]
                longest = max(len(run) for run in "".join(shown).split("#"))
                for size in range(longest + 1, many + 3):
                    for first in (0, 1, 37):
                        self.check((3, first, many), [first + place for place in places], size)


if __name__ == "__main__":
    unittest.main()
