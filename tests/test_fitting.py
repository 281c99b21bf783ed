import itertools
import unittest

from seatplan.runs import fitting


class FittingTest(unittest.TestCase):
    def check(self, runs, size, told):
        ahead = list(runs)
        found = fitting(runs, size)
        if told is None:
            self.assertIsNone(found)
        else:
            self.assertIs(type(found), tuple)
            self.assertEqual(found, told)
        self.assertEqual(runs, ahead)

    def test_no_runs(self):
        for size in (1, 2, 60, 2400):
            self.check([], size, None)

    def test_one_run(self):
        for size in (1, 2, 3):
            self.check([(4, 7, 3)], size, (4, 7, 3))
        for size in (4, 5, 2400):
            self.check([(4, 7, 3)], size, None)

    def test_none_that_has_so_many(self):
        self.check([(0, 0, 1), (0, 2, 3), (1, 0, 2)], 4, None)

    def test_the_fewest_seats_that_are_enough(self):
        runs = [(0, 0, 5), (0, 6, 2), (1, 0, 3), (1, 4, 8), (2, 0, 4)]
        for size, told in [(1, (0, 6, 2)), (2, (0, 6, 2)), (3, (1, 0, 3)), (4, (2, 0, 4)), (5, (0, 0, 5)),
                           (6, (1, 4, 8)), (8, (1, 4, 8)), (9, None)]:
            with self.subTest(size=size):
                self.check(runs, size, told)

    def test_of_equal_ones_the_first_of_the_list(self):
        self.check([(0, 0, 3), (1, 0, 2), (2, 0, 2), (3, 0, 2)], 2, (1, 0, 2))
        self.check([(0, 0, 3), (1, 0, 3)], 1, (0, 0, 3))
        self.check([(0, 0, 3), (0, 4, 3)], 3, (0, 0, 3))

    def test_the_first_of_the_list_and_not_of_the_hall(self):
        self.check([(3, 0, 2), (1, 0, 2), (2, 0, 2)], 2, (3, 0, 2))
        self.check([(0, 9, 2), (0, 0, 2)], 1, (0, 9, 2))

    def test_runs_of_more_rows_than_a_hall_has(self):
        runs = [(row, 0, 1 + row % 7) for row in range(101)]
        self.check(runs, 7, (6, 0, 7))
        self.check(list(reversed(runs)), 7, (97, 0, 7))
        self.check([(100, 100, 100)], 100, (100, 100, 100))
        self.check([(100, 100, 100)], 101, None)

    def test_each_list_of_few_runs(self):
        for many in range(5):
            for lengths in itertools.product(range(1, 5), repeat=many):
                runs = [(at, 0, length) for at, length in enumerate(lengths)]
                for size in range(1, 6):
                    enough = [run for run in runs if run[2] >= size]
                    self.check(runs, size, min(enough, key=lambda run: run[2]) if enough else None)


if __name__ == "__main__":
    unittest.main()
