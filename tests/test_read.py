import itertools
import re

from helpers import GOOD_NAMES, TEXTS_THAT_ARE_NO_NAMES, WRONG_HALLS, DeedTest, picture
from seatplan.errors import BadHall, BadLine, BadName, Known, Nothing, NoSeat, Taken
from seatplan.notes import drawn, read, written
from seatplan.plan import Plan

HALL = ["ooooo.oooooo", ".oo", "", "oooo"]


class ReadTest(DeedTest):
    def check(self, rows, lines, groups):
        """The lines are read to these pairs of a name and its spots."""
        rows_ahead = list(rows)
        lines_ahead = list(lines)
        plan = read(rows, lines)
        self.assertIs(type(plan), Plan)
        self.assertEqual(plan.hall, rows)
        self.assertEqual(plan.groups(), [name for name, _ in groups])
        for name, spots in groups:
            self.check_spots(plan.seats(name), spots)
        self.assertEqual(written(plan), lines)
        with self.assertRaises(Nothing):
            plan.back()
        self.assertEqual(rows, rows_ahead)
        self.assertEqual(lines, lines_ahead)
        return plan

    def test_no_lines(self):
        self.check(HALL, [], [])
        self.check([""], [], [])

    def test_the_line_of_the_document(self):
        self.check(["ooooo"], ["anna: 0.3 0.4"], [("anna", [(0, 3), (0, 4)])])

    def test_several_lines_in_their_order(self):
        self.check(HALL, ["zoe: 3.0 3.1", "bob: 0.0", "anna: 0.4 0.6 1.1", "0: 0.10 0.11"],
                   [("zoe", [(3, 0), (3, 1)]), ("bob", [(0, 0)]), ("anna", [(0, 4), (0, 6), (1, 1)]),
                    ("0", [(0, 10), (0, 11)])])

    def test_seats_that_no_deed_would_give(self):
        self.check(HALL, ["anna: 0.0 0.2 0.4 3.3"], [("anna", [(0, 0), (0, 2), (0, 4), (3, 3)])])

    def test_places_rise_as_numbers(self):
        self.check(HALL, ["anna: 0.9 0.10"], [("anna", [(0, 9), (0, 10)])])
        rows = [""] * 9 + ["o"] + ["o"] * 2
        self.check(rows, ["anna: 9.0 10.0 11.0"], [("anna", [(9, 0), (10, 0), (11, 0)])])

    def test_a_lower_place_in_a_later_row_rises(self):
        self.check(HALL, ["anna: 0.11 1.2 3.0"], [("anna", [(0, 11), (1, 2), (3, 0)])])

    def test_each_name(self):
        for name in GOOD_NAMES:
            self.check(HALL, [name + ": 3.3"], [(name, [(3, 3)])])

    def test_a_full_hall_in_one_line_and_in_many(self):
        rows = ["o" * 60] * 40
        spots = [(row, place) for row in range(40) for place in range(60)]
        line = "all:" + "".join(" " + str(row) + "." + str(place) for row, place in spots)
        self.check(rows, [line], [("all", spots)])
        lines = ["g" + str(at) + ": " + str(row) + "." + str(place) for at, (row, place) in enumerate(spots)]
        self.check(rows, lines, [("g" + str(at), [spot]) for at, spot in enumerate(spots)])

    def test_a_read_plan_goes_on_as_any(self):
        plan = self.check(HALL, ["anna: 0.1", "bob: 3.3"], [("anna", [(0, 1)]), ("bob", [(3, 3)])])
        self.check_runs(plan.free(), [(0, 0, 1), (0, 2, 3), (0, 6, 6), (1, 1, 2), (3, 0, 3)])
        with self.assertRaises(Known):
            plan.sit("anna", 1)
        with self.assertRaises(Taken):
            plan.shift("bob", 0, 1)
        self.assertEqual(plan.who(0, 1), "anna")
        ahead = picture(plan)
        self.check_spots(plan.sit("carl", 3), [(0, 2), (0, 3), (0, 4)])
        self.assertEqual(plan.groups(), ["anna", "bob", "carl"])
        self.check_spots(plan.leave("anna"), [(0, 1)])
        self.check_spots(plan.shift("bob", 0, 1), [(0, 1)])
        plan.back()
        plan.back()
        plan.back()
        self.assertEqual(picture(plan), ahead)
        with self.assertRaises(Nothing):
            plan.back()

    def test_what_was_written_is_read_to_the_same(self):
        plan = Plan(HALL)
        plan.party([("zoe", 2), ("anna", 1)])
        plan.apart("bob", 9)
        plan.sit("carl", 1)
        plan.leave("zoe")
        plan.sit("zoe", 1)
        plan.shift("anna", 3, 0)
        again = read(plan.hall, written(plan))
        self.assertEqual(picture(again), picture(plan))
        self.assertEqual(written(again), written(plan))
        self.assertEqual(drawn(again), drawn(plan))
        with self.assertRaises(Nothing):
            again.back()
        plan.back()
        self.assertNotEqual(picture(again), picture(plan))

    def test_two_plans_read_from_the_same_lines(self):
        rows = list(HALL)
        lines = ["anna: 0.0", "bob: 0.1"]
        one = read(rows, lines)
        two = read(rows, lines)
        one.leave("anna")
        self.assertEqual(two.groups(), ["anna", "bob"])
        self.assertEqual(lines, ["anna: 0.0", "bob: 0.1"])
        self.assertEqual(rows, HALL)


class LinesTest(DeedTest):
    def check(self, error, lines, rows=HALL):
        rows_ahead = list(rows)
        lines_ahead = list(lines)
        with self.assertRaises(error) as caught:
            read(rows, lines)
        self.assertIs(type(caught.exception), error)
        self.assertEqual(rows, rows_ahead)
        self.assertEqual(lines, lines_ahead)

    def bad(self, *lines):
        for line in lines:
            with self.subTest(line=line):
                self.check(BadLine, [line])
                self.check(BadLine, ["good: 3.3", line])
                self.check(BadLine, [line, "good: 3.3"])


class RefusedLinesTest(LinesTest):
    def test_a_colon_with_a_blank_stands_not_just_once(self):
        self.bad("", " ", "anna", "anna 0.0", "anna:", "anna:0.0", "anna :0.0", ":", "0.0", "anna:\t0.0", "anna:\n0.0",
                 "anna; 0.0", "anna:0.0 0.1", "anna: 0.0: 0.1", "anna: bob: 0.0", "anna: : 0.0", ": : 0.0",
                 "anna: 0.0 0.1: ", "anna:0.0: ", "a: b: c: 0.0")

    def test_no_seat(self):
        self.bad("anna: ", ": ", "anna:  ", "anna: :", "Anna: ")

    def test_seats_that_do_not_rise(self):
        self.bad("anna: 0.1 0.0", "anna: 3.0 0.0", "anna: 0.0 0.2 0.1", "anna: 0.10 0.9", "anna: 1.1 0.2",
                 "anna: 0.1 3.0 0.2", "anna: 10.0 9.0")

    def test_seats_that_stand_twice(self):
        self.bad("anna: 0.0 0.0", "anna: 0.0 0.1 0.1", "anna: 0.0 0.1 0.0", "anna: 3.3 3.3")

    def test_what_is_no_number_of_one_or_two_figures(self):
        self.bad("anna: 0.100", "anna: 100.0", "anna: 0.999", "anna: 000.0", "anna: 0.1234567890")
        self.bad("anna: 0.", "anna: .0", "anna: .", "anna: 0", "anna: 00", "anna: 0..0", "anna: 0.0.", "anna: 0.0.0",
                 "anna: .0.0", "anna: 0,0", "anna: 0-0", "anna: 0:0")
        self.bad("anna: a.0", "anna: 0.a", "anna: o.o", "anna: 0.0a", "anna: a0.0", "anna: 0x.0", "anna: 1_.0",
                 "anna: 1e.0", "anna: 0.1_", "anna: _1.0")

    def test_a_nought_ahead_of_another_figure(self):
        self.bad("anna: 00.0", "anna: 0.00", "anna: 01.1", "anna: 1.01", "anna: 0.09", "anna: 0.0 0.01")

    def test_signs_ahead_of_a_number(self):
        self.bad("anna: -1.0", "anna: 0.-1", "anna: +1.0", "anna: 0.+1", "anna: -0.0", "anna: 0.-0", "anna: 0.0-")

    def test_figures_of_other_scripts(self):
        for figure in "\u0660\u0661\u06f1\u0967\uff11\u00b9\u00b2\u2460\u00bd\u4e00\U0001d7ce":
            self.bad("anna: 0." + figure, "anna: " + figure + ".0", "anna: 0.1" + figure, "anna: " + figure + "1.0")

    def test_blanks_too_many(self):
        self.bad("anna:  0.0", "anna: 0.0  0.1", "anna: 0.0 ", "anna: 0.0 0.1 ", "anna: 0 .0", "anna: 0. 0",
                 "anna: 0.0\n", "anna: 0.0\t0.1", "anna: 0.0\n0.1", "anna: \t0.0", "anna: 0.0\r", "anna: 0.0\u00a00.1")

    def test_a_colon_without_a_blank_among_the_seats(self):
        self.bad("anna: 0.0:", "anna: 0.0 :0.1", "anna: :0.0", "anna: 0.0:0.1")

    def test_what_stands_ahead_of_the_colon_is_the_name(self):
        for name in TEXTS_THAT_ARE_NO_NAMES:
            with self.subTest(name=name):
                if ": " in name:
                    self.bad(name + ": 0.0")
                else:
                    self.check(BadName, [name + ": 0.0"])
                    self.check(BadName, ["good: 3.3", name + ": 0.0"])
        self.check(BadName, [":: 0.0"])
        self.check(BadName, ["a:b: 0.0"])
        self.check(BadName, ["anna : 0.0"])
        self.check(BadName, [" : 0.0"])

    def test_a_line_ahead_has_the_name(self):
        self.check(Known, ["anna: 0.0", "anna: 0.1"])
        self.check(Known, ["anna: 0.0", "bob: 0.1", "anna: 0.2"])
        self.check(Known, ["anna: 0.0", "bob: 0.1", "bob: 0.2"])

    def test_spots_that_are_no_seats(self):
        for seat in ("0.5", "0.12", "1.0", "1.3", "2.0", "4.0", "9.9", "0.99", "99.0", "99.99", "40.0", "0.60"):
            self.check(NoSeat, ["anna: " + seat])
            self.check(NoSeat, ["good: 3.3", "anna: " + seat])
        self.check(NoSeat, ["anna: 0.4 0.5"])
        self.check(NoSeat, ["anna: 0.5 0.6"])
        self.check(NoSeat, ["anna: 0.0"], [""])

    def test_seats_of_a_group_ahead(self):
        self.check(Taken, ["anna: 0.0", "bob: 0.0"])
        self.check(Taken, ["anna: 0.0 0.1", "bob: 0.1 0.2"])
        self.check(Taken, ["anna: 0.1", "bob: 0.0 0.1"])
        self.check(Taken, ["anna: 0.0", "bob: 0.2 0.3", "carl: 0.1 0.2"])
        self.check(Taken, ["anna: 0.0", "bob: 0.2 0.3", "carl: 0.0"])


class OrderTest(LinesTest):
    def test_a_line_is_looked_at_for_its_form_first(self):
        self.check(BadLine, ["Anna: 0.1 0.0"])
        self.check(BadLine, ["Anna: 99.99 0.0"])
        self.check(BadLine, ["Anna: "])
        self.check(BadLine, [": 0.00"])
        self.check(BadLine, ["anna: 0.0", "anna: 0.0 0.0"])
        self.check(BadLine, ["anna: 99.99 0"])
        self.check(BadLine, ["anna: 0.0", "bob: 0.0 0.1 x"])

    def test_then_for_its_name(self):
        self.check(BadName, ["Anna: 99.99"])
        self.check(BadName, ["bob: 0.0", "Anna: 0.0"])
        self.check(BadName, ["bob: 0.0", ": 0.0 99.99"])

    def test_then_for_a_line_ahead_with_its_name(self):
        self.check(Known, ["anna: 0.0", "anna: 0.0"])
        self.check(Known, ["anna: 0.0", "anna: 99.99"])
        self.check(Known, ["anna: 0.0", "anna: 0.5"])

    def test_then_spot_by_spot(self):
        self.check(Taken, ["anna: 0.0", "bob: 0.0 0.5"])
        self.check(NoSeat, ["anna: 0.6", "bob: 0.5 0.6"])
        self.check(NoSeat, ["anna: 0.6", "bob: 0.4 0.5 0.6"])
        self.check(Taken, ["anna: 0.4", "bob: 0.3 0.4 0.5 99.99"])

    def test_the_first_line_that_can_not_be(self):
        faulty = [("bob: 0.1 0.0", BadLine), ("bob:0.1", BadLine), ("Bob: 0.1", BadName), ("anna: 0.1", Known),
                  ("bob: 9.9", NoSeat), ("bob: 0.0", Taken)]
        for (first, error), (second, _) in itertools.product(faulty, faulty):
            with self.subTest(first=first, second=second):
                self.check(error, ["anna: 0.0", first, second])
                self.check(error, ["anna: 0.0", "carl: 0.2", first, "dora: 0.3", second])
                self.check(error, ["anna: 0.0", first, "nonsense", second])

    def test_a_refused_line_does_not_wait_for_what_stands_behind_it(self):
        self.check(NoSeat, ["anna: 9.9", "", "anna: 9.9", "Anna"])
        self.check(BadName, ["Anna: 0.0", "anna"])

    def test_bad_hall_first(self):
        for rows in WRONG_HALLS:
            with self.subTest(rows=rows):
                for lines in ([], ["anna: 0.0"], ["nonsense"], ["Anna: 0.0"], ["anna: 99.99"]):
                    with self.assertRaises(BadHall) as caught:
                        read(rows, lines)
                    self.assertIs(type(caught.exception), BadHall)


class EachShortTextTest(DeedTest):
    def test_each_short_text_behind_the_colon(self):
        number = "(0|[1-9][0-9]?)"
        seats = re.compile(number + r"\." + number + "( " + number + r"\." + number + ")*")
        for many in range(6):
            for signs in itertools.product("01. :", repeat=many):
                text = "".join(signs)
                told = [tuple(map(int, word.split("."))) for word in text.split(" ")] if seats.fullmatch(text) else []
                rises = all(one < two for one, two in zip(told, told[1:]))
                if told and rises:
                    self.check_read(text, told)
                else:
                    with self.assertRaises(BadLine):
                        read(["oo", "oo"], ["anna: " + text])

    def check_read(self, text, spots):
        if all(row < 2 and place < 2 for row, place in spots):
            self.assertEqual(read(["oo", "oo"], ["anna: " + text]).seats("anna"), spots)
        else:
            with self.assertRaises(NoSeat):
                read(["oo", "oo"], ["anna: " + text])
