import unittest

from seatplan import errors

NAMES = [
    "BadHall", "BadName", "BadSize", "Known", "Unknown", "NoSeat",
    "Taken", "NoRoom", "Room", "Nothing", "BadLine",
]


class RefusalsTest(unittest.TestCase):
    def test_seat_error_is_a_value_error(self):
        self.assertIsInstance(errors.SeatError, type)
        self.assertTrue(issubclass(errors.SeatError, ValueError))
        self.assertIsNot(errors.SeatError, ValueError)

    def test_each_class_is_there(self):
        for name in ["SeatError"] + NAMES:
            with self.subTest(name):
                told = getattr(errors, name)
                self.assertIsInstance(told, type)
                self.assertEqual(told.__name__, name)
                self.assertEqual(told.__module__, "seatplan.errors")

    def test_each_refusal_is_a_seat_error_and_a_value_error(self):
        for name in NAMES:
            with self.subTest(name):
                told = getattr(errors, name)
                self.assertTrue(issubclass(told, errors.SeatError))
                self.assertTrue(issubclass(told, ValueError))
                self.assertIsNot(told, errors.SeatError)

    def test_no_refusal_is_under_another_one(self):
        for name in NAMES:
            for other in NAMES:
                if name != other:
                    with self.subTest(name=name, other=other):
                        self.assertFalse(issubclass(getattr(errors, name), getattr(errors, other)))

    def test_each_refusal_is_raised_and_caught_by_its_name(self):
        for name in NAMES:
            with self.subTest(name):
                told = getattr(errors, name)
                for caught in (told, errors.SeatError, ValueError):
                    with self.assertRaises(caught):
                        raise told("why")


if __name__ == "__main__":
    unittest.main()
