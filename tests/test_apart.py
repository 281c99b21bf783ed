from helpers import DeedTest, side_by_side
from seatplan.errors import NoRoom
from seatplan.plan import Plan


class ApartTest(DeedTest):
    def check(self, rows, size, spots, groups=()):
        """A group that sits apart behind these groups gets these spots."""
        plan = Plan(rows)
        for name, many in groups:
            plan.sit(name, many)
        self.check_spots(plan.apart("anna", size), spots)
        self.check_spots(plan.seats("anna"), spots)
        self.assertEqual(plan.groups(), [name for name, _ in groups] + ["anna"])
        self.assertEqual([plan.who(row, place) for row, place in spots], ["anna"] * size)
        plan.back()
        self.assertEqual(plan.groups(), [name for name, _ in groups])

    def test_one_run_as_by_point_6(self):
        rows = ["ooooo.oo", "ooo.oooooooo", "oooo"]
        for size in range(1, 9):
            self.check(rows, size, Plan(rows).sit("anna", size))

    def test_all_of_the_longest_run_then_the_rest(self):
        self.check(["ooo", "oo"], 4, side_by_side(0, 0, 3) + [(1, 0)])
        self.check(["ooo", "oo"], 5, side_by_side(0, 0, 3) + side_by_side(1, 0, 2))
        self.check(["oo", "ooo"], 4, [(0, 0)] + side_by_side(1, 0, 3))

    def test_the_rest_gets_the_fewest_seats_that_are_enough(self):
        self.check(["ooooo.ooo.oo.o"], 6, side_by_side(0, 0, 5) + [(0, 13)])
        self.check(["ooooo.ooo.oo.o"], 7, side_by_side(0, 0, 5) + side_by_side(0, 10, 2))
        self.check(["ooooo.ooo.oo.o"], 8, side_by_side(0, 0, 5) + side_by_side(0, 6, 3))
        self.check(["ooooo.ooo.oo.o"], 9, side_by_side(0, 0, 5) + side_by_side(0, 6, 3) + [(0, 13)])

    def test_the_rest_gets_the_first_seats_of_its_run(self):
        self.check(["oooo", "...ooo"], 6, side_by_side(0, 0, 4) + side_by_side(1, 3, 2))

    def test_of_equal_longest_ones_the_first(self):
        self.check(["o", "ooo", "ooo", "ooo"], 4, [(0, 0)] + side_by_side(1, 0, 3))
        self.check(["ooo.ooo.ooo"], 5, side_by_side(0, 0, 3) + side_by_side(0, 4, 2))
        self.check(["oo", "ooo", "ooo"], 5, side_by_side(0, 0, 2) + side_by_side(1, 0, 3))

    def test_of_equal_ones_for_the_rest_the_first(self):
        self.check(["oo", "oooo", "oo"], 5, [(0, 0)] + side_by_side(1, 0, 4))
        self.check(["ooo", "oo", "oooo", "oo"], 6, side_by_side(1, 0, 2) + side_by_side(2, 0, 4))

    def test_a_run_that_is_just_enough_ends_it(self):
        self.check(["ooo", "oo", "ooo"], 6, side_by_side(0, 0, 3) + side_by_side(2, 0, 3))
        self.check(["ooo", "oo", "ooo"], 8, side_by_side(0, 0, 3) + side_by_side(1, 0, 2) + side_by_side(2, 0, 3))

    def test_the_longest_that_is_left_and_not_the_next_one(self):
        self.check(["oooo", "o", "ooo", "oo"], 8, side_by_side(0, 0, 4) + [(1, 0)] + side_by_side(2, 0, 3))

    def test_told_by_rows_then_places_and_not_as_they_were_got(self):
        self.check(["o.oo.ooo"], 6, [(0, 0), (0, 2), (0, 3), (0, 5), (0, 6), (0, 7)])
        self.check(["o", "oo", "ooo"], 6, [(0, 0), (1, 0), (1, 1), (2, 0), (2, 1), (2, 2)])

    def test_rows_and_places_rise_as_numbers(self):
        rows = ["o" * (row + 1) for row in range(12)]
        self.check(rows, 78, [(row, place) for row in range(12) for place in range(row + 1)])

    def test_around_groups_that_are_there(self):
        self.check(["oooooo", "oo"], 5, side_by_side(0, 3, 3) + [(1, 0), (1, 1)], [("bob", 3)])
        self.check(["oo.oo"], 2, [(0, 3), (0, 4)], [("bob", 1)])

    def test_each_seat_of_the_largest_hall(self):
        self.check(["o" * 60] * 40, 2400, [(row, place) for row in range(40) for place in range(60)])

    def test_each_seat_of_a_hall_of_single_seats(self):
        rows = ["o." * 30] * 40
        self.check(rows, 1200, [(row, place) for row in range(40) for place in range(0, 60, 2)])

    def test_a_group_apart_is_one_deed(self):
        plan = Plan(["ooo", "ooo"])
        plan.sit("bob", 1)
        plan.apart("anna", 5)
        self.assertEqual(plan.free(), [])
        plan.back()
        self.assertEqual(plan.groups(), ["bob"])
        self.assertEqual(plan.free(), [(0, 1, 2), (1, 0, 3)])


class NoRoomTest(DeedTest):
    def test_just_where_fewer_seats_are_free(self):
        for rows in (["ooo"], ["o.o.o"], ["oo", "o"], ["o", "", ".o", "o"]):
            self.assertEqual(len(Plan(rows).apart("anna", 3)), 3)
            self.refused(NoRoom, lambda: Plan(rows), lambda plan: plan.apart("anna", 4))
            self.refused(NoRoom, lambda: Plan(rows), lambda plan: plan.apart("anna", 2400))

    def test_no_seats_at_all(self):
        for rows in ([""], ["..."], [".", ""]):
            self.refused(NoRoom, lambda: Plan(rows), lambda plan: plan.apart("anna", 1))

    def test_taken_seats_are_not_free(self):
        def made():
            plan = Plan(["ooo", "oo"])
            plan.sit("bob", 2)
            return plan

        self.check_spots(made().apart("anna", 3), side_by_side(0, 0, 3))
        self.refused(NoRoom, made, lambda plan: plan.apart("anna", 4))
