from helpers import DeedTest, side_by_side
from seatplan.errors import NoRoom
from seatplan.plan import Plan


class SitTest(DeedTest):
    def check(self, rows, sizes, seats):
        """Groups of these sizes sit one after the other on these seats."""
        plan = Plan(rows)
        for at, (size, spots) in enumerate(zip(sizes, seats)):
            name = "g" + str(at)
            self.check_spots(plan.sit(name, size), spots)
            self.check_spots(plan.seats(name), spots)
            self.assertEqual([plan.who(row, place) for row, place in spots], [name] * size)
        self.assertEqual(plan.groups(), ["g" + str(at) for at in range(len(sizes))])
        for at, spots in enumerate(seats):
            self.check_spots(plan.seats("g" + str(at)), spots)
        return plan

    def test_the_first_seats_of_the_only_run(self):
        self.check(["ooooo"], [2], [[(0, 0), (0, 1)]])
        self.check(["..ooo"], [2], [[(0, 2), (0, 3)]])
        self.check(["..ooo"], [3], [[(0, 2), (0, 3), (0, 4)]])

    def test_the_run_with_the_fewest_seats_that_are_enough(self):
        rows = ["ooooo.oo", "ooo.oooooooo", "oooo"]
        for size, run in [(1, (0, 6)), (2, (0, 6)), (3, (1, 0)), (4, (2, 0)), (5, (0, 0)), (6, (1, 4)), (8, (1, 4))]:
            with self.subTest(size=size):
                self.check(rows, [size], [side_by_side(run[0], run[1], size)])

    def test_of_equal_ones_the_first(self):
        self.check(["oo.oo", "oo"], [2], [[(0, 0), (0, 1)]])
        self.check(["ooo", "oo", "oo"], [2], [[(1, 0), (1, 1)]])
        self.check(["o.o", "o"], [1, 1, 1], [[(0, 0)], [(0, 2)], [(1, 0)]])
        self.check(["ooo.oo.oo"], [1], [[(0, 4)]])

    def test_what_is_left_of_a_run_is_a_run(self):
        self.check(["oooooo"], [2, 3, 1], [[(0, 0), (0, 1)], [(0, 2), (0, 3), (0, 4)], [(0, 5)]])
        self.check(["oooo", "ooo"], [3, 3, 1], [side_by_side(1, 0, 3), side_by_side(0, 0, 3), [(0, 3)]])

    def test_not_the_first_run_that_is_long_enough(self):
        self.check(["oooo", "oo"], [2, 2, 2], [[(1, 0), (1, 1)], [(0, 0), (0, 1)], [(0, 2), (0, 3)]])

    def test_the_run_between_two_groups(self):
        plan = self.check(["oooooo"], [2, 1, 3], [side_by_side(0, 0, 2), [(0, 2)], side_by_side(0, 3, 3)])
        plan.leave("g1")
        self.check_spots(plan.sit("new", 1), [(0, 2)])

    def test_all_the_seats_of_the_longest_row(self):
        self.check(["o" * 60], [60], [side_by_side(0, 0, 60)])
        self.check(["o" * 59, "o" * 60], [60, 59], [side_by_side(1, 0, 60), side_by_side(0, 0, 59)])

    def test_each_seat_of_the_largest_hall(self):
        seats = [side_by_side(row, 0, 60) for row in range(40)]
        plan = self.check(["o" * 60] * 40, [60] * 40, seats)
        self.assertEqual(plan.free(), [])
        with self.assertRaises(NoRoom):
            plan.sit("more", 1)

    def test_a_name_that_has_left_may_come_again_as_the_last(self):
        plan = self.check(["ooo"], [1, 1], [[(0, 0)], [(0, 1)]])
        plan.leave("g0")
        self.check_spots(plan.sit("g0", 1), [(0, 0)])
        self.assertEqual(plan.groups(), ["g1", "g0"])


class NoRoomTest(DeedTest):
    def test_no_free_run_has_so_many_seats(self):
        for rows, size in [(["o"], 2), (["ooo"], 4), (["oo.oo"], 3), (["oo", "oo"], 3), (["o." * 30], 2),
                           (["."], 1), ([""], 1), (["o" * 60] * 40, 61), (["o" * 60] * 40, 2400), (["o"], 2400)]:
            with self.subTest(rows=rows, size=size):
                self.refused(NoRoom, lambda: Plan(rows), lambda plan: plan.sit("anna", size))

    def test_free_seats_enough_but_not_side_by_side(self):
        def made():
            plan = Plan(["ooooo"])
            plan.sit("a", 2)
            plan.sit("b", 1)
            plan.sit("c", 2)
            plan.leave("a")
            plan.leave("c")
            return plan

        self.refused(NoRoom, made, lambda plan: plan.sit("d", 3))
        self.refused(NoRoom, made, lambda plan: plan.sit("d", 4))
        self.check_spots(made().sit("d", 2), [(0, 0), (0, 1)])

    def test_just_as_many_as_the_longest_run_and_one_more(self):
        def made():
            plan = Plan(["oooo", "ooo"])
            plan.sit("a", 4)
            return plan

        self.check_spots(made().sit("b", 3), side_by_side(1, 0, 3))
        self.refused(NoRoom, made, lambda plan: plan.sit("b", 4))
