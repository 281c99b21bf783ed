from helpers import DeedTest, side_by_side
from seatplan.errors import NoSeat, Taken
from seatplan.plan import Plan

LARGE = [10 ** 3, 2 ** 31, 2 ** 63 - 1, 2 ** 63, 10 ** 40]


def three_groups():
    """Drawn: ###oo.oo, and .##oooo below it."""
    plan = Plan(["ooooo.oo", ".oooooo"])
    plan.sit("anna", 3)
    plan.sit("bob", 2)
    plan.shift("bob", 1, 1)
    plan.sit("carl", 2)
    plan.shift("carl", 0, 6)
    return plan


class ShiftTest(DeedTest):
    def check(self, name, row, first, made=three_groups):
        plan = made()
        names = plan.groups()
        ahead = {other: plan.seats(other) for other in names}
        spots = side_by_side(row, first, len(ahead[name]))
        self.check_spots(plan.shift(name, row, first), spots)
        self.check_spots(plan.seats(name), spots)
        self.assertEqual(plan.groups(), names)
        for other in names:
            if other != name:
                self.assertEqual(plan.seats(other), ahead[other])
        for spot in ahead[name]:
            if spot not in spots:
                self.assertIsNone(plan.who(spot[0], spot[1]))
        plan.back()
        self.assertEqual({other: plan.seats(other) for other in plan.groups()}, ahead)
        self.assertEqual(plan.groups(), names)

    def test_to_seats_that_are_free(self):
        self.check("anna", 1, 3)
        self.check("anna", 1, 4)
        self.check("bob", 0, 3)
        self.check("carl", 1, 5)

    def test_onto_its_own_seats(self):
        self.check("anna", 0, 0)
        self.check("bob", 1, 1)
        self.check("carl", 0, 6)

    def test_onto_some_of_its_own_seats(self):
        self.check("anna", 0, 1)
        self.check("anna", 0, 2)
        self.check("bob", 1, 2)

    def test_right_beside_its_own_seats(self):
        self.check("bob", 1, 3)
        plan = Plan(["ooooo"])
        plan.sit("anna", 2)
        self.check_spots(plan.shift("anna", 0, 2), [(0, 2), (0, 3)])
        self.check_spots(plan.shift("anna", 0, 0), [(0, 0), (0, 1)])

    def test_right_beside_another_group(self):
        self.check("carl", 0, 3)
        self.check("carl", 1, 3)

    def test_to_the_last_seats_of_a_row(self):
        self.check("bob", 1, 5)
        self.check("anna", 1, 4)

    def test_its_place_among_the_groups_stays(self):
        plan = three_groups()
        for name, row, first in [("bob", 1, 4), ("anna", 1, 1), ("carl", 0, 0), ("anna", 0, 2)]:
            plan.shift(name, row, first)
            self.assertEqual(plan.groups(), ["anna", "bob", "carl"])

    def test_a_group_that_sat_apart_sits_together_then(self):
        def made():
            plan = Plan(["oo.o", "ooo"])
            plan.sit("bob", 1)
            plan.apart("anna", 2)
            plan.leave("bob")
            return plan

        def parted():
            plan = Plan(["oo.o", ".ooo"])
            plan.apart("anna", 4)
            return plan

        self.check("anna", 1, 1, made)
        self.assertEqual(parted().seats("anna"), [(0, 3)] + side_by_side(1, 1, 3))
        self.refused(NoSeat, parted, lambda plan: plan.shift("anna", 1, 1))

        def smaller():
            plan = Plan(["o.oo.oooo"])
            plan.sit("bob", 2)
            plan.sit("carl", 2)
            plan.apart("anna", 3)
            plan.leave("bob")
            plan.leave("carl")
            return plan

        self.assertEqual(smaller().seats("anna"), [(0, 0), (0, 7), (0, 8)])
        self.check("anna", 0, 5, smaller)
        self.check("anna", 0, 6, smaller)

    def test_the_seats_it_had_are_free_for_others(self):
        plan = three_groups()
        plan.shift("anna", 1, 3)
        self.check_spots(plan.sit("dora", 5), side_by_side(0, 0, 5))


class NoSeatTest(DeedTest):
    def check(self, name, row, first):
        self.refused(NoSeat, three_groups, lambda plan: plan.shift(name, row, first))

    def test_gaps(self):
        self.check("bob", 0, 4)
        self.check("bob", 0, 5)
        self.check("bob", 1, 0)

    def test_behind_the_end_of_a_row(self):
        self.check("bob", 0, 7)
        self.check("bob", 0, 8)
        self.check("bob", 0, 100)
        self.check("anna", 1, 5)

    def test_below_nought(self):
        for at in (-1, -2, -3, -8, -9):
            self.check("bob", at, 0)
            self.check("bob", at, 1)
            self.check("bob", 0, at)
            self.check("bob", 1, at)
            self.check("bob", at, at)

    def test_no_such_row(self):
        for row in (2, 3, 40, 100):
            self.check("anna", row, 0)
            self.check("anna", row, 1)

    def test_very_large_numbers_either_way(self):
        for large in LARGE + [-large for large in LARGE]:
            self.check("anna", large, 0)
            self.check("anna", 0, large)
            self.check("anna", large, large)
            self.check("anna", -large, large)


class TakenTest(DeedTest):
    def check(self, name, row, first):
        self.refused(Taken, three_groups, lambda plan: plan.shift(name, row, first))

    def test_all_seats_of_another_group(self):
        self.check("bob", 0, 0)
        self.check("carl", 1, 1)

    def test_the_first_or_the_last_seat_of_another_group(self):
        self.check("bob", 0, 2)
        self.check("anna", 1, 1)
        self.check("anna", 1, 2)

    def test_its_own_seats_and_one_of_another_group(self):
        def made():
            plan = Plan(["oooooo"])
            plan.sit("anna", 2)
            plan.sit("bob", 2)
            return plan

        self.refused(Taken, made, lambda plan: plan.shift("anna", 0, 1))
        self.refused(Taken, made, lambda plan: plan.shift("bob", 0, 1))
        self.check_spots(made().shift("bob", 0, 3), [(0, 3), (0, 4)])


class OrderTest(DeedTest):
    def test_no_seat_ahead_of_taken_over_all_seats(self):
        def made():
            plan = Plan(["ooooo.", "o.ooo", "ooooo"])
            plan.sit("anna", 3)
            plan.sit("bob", 2)
            plan.shift("bob", 2, 3)
            return plan

        self.assertEqual(made().seats("anna"), side_by_side(1, 2, 3))
        # The first seat is taken, a later spot is no seat.
        self.refused(NoSeat, made, lambda plan: plan.shift("bob", 1, 4))
        self.refused(NoSeat, made, lambda plan: plan.shift("anna", 2, 3))
        self.refused(NoSeat, made, lambda plan: plan.shift("anna", 2, 4))
        # The first spot is no seat, a later one is taken.
        self.refused(NoSeat, made, lambda plan: plan.shift("bob", 1, 1))
        self.refused(Taken, made, lambda plan: plan.shift("bob", 1, 2))
        self.refused(Taken, made, lambda plan: plan.shift("anna", 2, 2))
