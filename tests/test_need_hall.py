import copy
import unittest

from seatplan.errors import BadHall
from seatplan.hall import need_hall


class HallsTest(unittest.TestCase):
    def check(self, rows):
        ahead = list(rows)
        found = need_hall(rows)
        self.assertIs(type(found), list)
        self.assertEqual(found, ahead)
        self.assertEqual(rows, ahead)

    def test_ordinary_halls_come_back(self):
        self.check(["oo.oo", ".ooo.", "ooooo"])
        self.check(["o", "."])
        self.check(["oo..oo", "", "...", "o.o.o.o"])
        self.check(["oo", "oo", "oo"])

    def test_one_row(self):
        self.check(["ooo"])
        self.check(["o"])
        self.check(["."])

    def test_forty_rows(self):
        self.check(["o.o"] * 40)
        self.check(["o" * place for place in range(40)])
        self.check(["o"] * 39)

    def test_empty_rows(self):
        self.check([""])
        self.check(["", "oo"])
        self.check(["oo", ""])
        self.check([""] * 40)

    def test_a_row_of_sixty_signs(self):
        self.check(["o" * 60])
        self.check(["." * 60])
        self.check(["o." * 30])
        self.check(["o", "o" * 59, ".o" * 30])

    def test_the_largest_hall(self):
        self.check(["o" * 60] * 40)

    def test_a_hall_without_a_seat(self):
        self.check(["...", "."])


class RefusedHallsTest(unittest.TestCase):
    def check(self, rows):
        with self.assertRaises(BadHall) as caught:
            need_hall(rows)
        self.assertIs(type(caught.exception), BadHall)

    def test_no_rows(self):
        self.check([])

    def test_forty_one_rows(self):
        self.check(["o"] * 41)
        self.check([""] * 41)
        self.check(["o"] * 1000)

    def test_a_row_of_sixty_one_signs(self):
        self.check(["o" * 61])
        self.check(["." * 61])
        self.check(["o" * 1000])

    def test_a_long_row_in_any_place(self):
        for at in range(40):
            rows = ["oo"] * 40
            rows[at] = "o." * 30 + "o"
            with self.subTest(at=at):
                self.check(rows)

    def test_another_sign(self):
        signs = ["O", "0", "x", "#", " ", "-", ",", ":", "\n", "\t", "\0", "\u00f6", "\u043e", "\u2024"]
        for sign in signs:
            with self.subTest(sign=sign):
                self.check([sign])
                self.check([sign + "oo"])
                self.check(["o" + sign + "o"])
                self.check(["oo." + sign])

    def test_another_sign_in_any_row(self):
        for at in range(40):
            rows = ["oo"] * 40
            rows[at] = "o#"
            with self.subTest(at=at):
                self.check(rows)

    def test_another_sign_at_any_place(self):
        for at in range(60):
            with self.subTest(at=at):
                self.check(["o" * at + "x" + "." * (59 - at)])

    def test_a_row_that_is_no_text(self):
        wrong = [None, 0, 1, -1, True, False, 1.5, b"o", b"", bytearray(b"o"), ["o"], [], ["o", "."],
                 ("o",), (), {"o": "o"}, {}, {"o"}, set(), object(), str]
        for row in wrong:
            with self.subTest(row=row):
                self.check([row])
                self.check([row, "oo"])
                self.check(["oo", row])
                self.check(["oo", row, "oo"])

    def test_what_is_no_list(self):
        wrong = [("o",), ("oo", "oo"), (), "o", "oo", "", "o.o", 0, 1, -1, 40, 1.5, None, True, False,
                 {}, {"o": "o"}, {0: "oo"}, {"oo": None}, set(), {"oo"}, b"o", range(3), object(), list, iter(["oo"])]
        for rows in wrong:
            with self.subTest(rows=rows):
                self.check(rows)

    def test_a_list_of_lists_and_one_that_holds_itself(self):
        self.check([["oo"], ["oo"]])
        rows = ["oo"]
        rows.append(rows)
        self.check(rows)

    def test_what_is_refused_is_not_changed(self):
        for rows in [[], ["o"] * 41, ["o" * 61], ["ox"], ["o", ["o"]], ["o", {"o": 1}], ("o",), {"o": "."}]:
            ahead = copy.deepcopy(rows)
            with self.subTest(rows=rows):
                self.check(rows)
                self.assertEqual(rows, ahead)


if __name__ == "__main__":
    unittest.main()
