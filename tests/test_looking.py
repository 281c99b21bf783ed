from helpers import DeedTest, picture, side_by_side, trail
from seatplan.errors import NoSeat
from seatplan.plan import Plan

LARGE = [61, 10 ** 3, 2 ** 31, 2 ** 63 - 1, 2 ** 63, 2 ** 64, 10 ** 40]


def two_groups():
    plan = Plan(["oo.ooo", ".oo", "", "ooo"])
    plan.sit("anna", 1)
    plan.apart("bob", 4)
    return plan


class WhoTest(DeedTest):
    def no_seat(self, row, place):
        self.refused(NoSeat, two_groups, lambda plan: plan.who(row, place))

    def test_seats(self):
        plan = two_groups()
        self.assertEqual(plan.seats("anna"), [(0, 0)])
        self.assertEqual(plan.seats("bob"), [(0, 1)] + side_by_side(0, 3, 3))
        self.assertEqual(plan.who(0, 0), "anna")
        for place in (1, 3, 4, 5):
            self.assertEqual(plan.who(0, place), "bob")
        for row, place in [(1, 1), (1, 2), (3, 0), (3, 1), (3, 2)]:
            self.assertIsNone(plan.who(row, place))

    def test_every_seat_of_a_new_plan_is_free(self):
        plan = Plan(["oo.o", "o"])
        for row, place in [(0, 0), (0, 1), (0, 3), (1, 0)]:
            self.assertIsNone(plan.who(row, place))

    def test_gaps(self):
        self.no_seat(0, 2)
        self.no_seat(1, 0)

    def test_outside_of_the_hall(self):
        for row, place in [(0, 6), (1, 3), (1, 4), (2, 0), (3, 3), (4, 0), (4, 1), (40, 0), (0, 60)]:
            self.no_seat(row, place)

    def test_below_nought(self):
        for row in range(-6, 4):
            for place in range(-7, 7):
                if row < 0 or place < 0:
                    self.no_seat(row, place)

    def test_very_large_numbers_either_way(self):
        for large in LARGE + [-large for large in LARGE]:
            self.no_seat(large, 0)
            self.no_seat(0, large)
            self.no_seat(large, large)
            self.no_seat(large, -large)


class GroupsAndSeatsTest(DeedTest):
    def test_a_new_plan_has_no_groups(self):
        for rows in (["ooo"], [""], ["."], ["o" * 60] * 40):
            plan = Plan(rows)
            self.assertIs(type(plan.groups()), list)
            self.assertEqual(plan.groups(), [])

    def test_in_the_order_in_which_they_came(self):
        plan = Plan(["o" * 20])
        plan.sit("zoe", 1)
        plan.party([("mia", 1), ("ada", 2)])
        plan.apart("10", 1)
        plan.sit("9", 1)
        self.assertEqual(plan.groups(), ["zoe", "mia", "ada", "10", "9"])

    def test_seats_by_rows_then_places(self):
        plan = Plan(["o.oo.ooo", "oooo"])
        plan.apart("anna", 10)
        self.check_spots(plan.seats("anna"), [(0, 0), (0, 2), (0, 3), (0, 5), (0, 6), (0, 7)] + side_by_side(1, 0, 4))

    def test_free_is_told_by_rows_then_first_places(self):
        plan = Plan(["ooooo", ".oo.o", "o"])
        self.check_runs(plan.free(), [(0, 0, 5), (1, 1, 2), (1, 4, 1), (2, 0, 1)])
        plan.sit("anna", 1)
        self.check_runs(plan.free(), [(0, 0, 5), (1, 1, 2), (2, 0, 1)])
        plan.sit("bob", 3)
        self.check_runs(plan.free(), [(0, 3, 2), (1, 1, 2), (2, 0, 1)])
        plan.shift("bob", 0, 1)
        self.check_runs(plan.free(), [(0, 0, 1), (0, 4, 1), (1, 1, 2), (2, 0, 1)])

    def test_looking_changes_nothing(self):
        plan = two_groups()
        ahead = picture(plan)
        self.assertEqual(picture(plan), ahead)
        self.assertEqual(picture(plan), picture(two_groups()))


class ToldListsTest(DeedTest):
    def test_what_was_told_stays_as_it_was(self):
        plan = Plan(["ooooo.oo", "ooo"])
        told = [plan.sit("anna", 2), plan.party([("bob", 1), ("carl", 2)]), plan.apart("dora", 4)]
        told += [plan.free(), plan.groups(), plan.seats("anna"), plan.seats("dora"), plan.marks(5), plan.hall]
        told += [plan.leave("dora"), plan.shift("anna", 0, 0), plan.shift("anna", 0, 1)]
        ahead = repr(told)
        plan.leave("bob")
        plan.sit("emil", 1)
        self.assertEqual(repr(told), ahead)
        trail(plan)
        self.assertEqual(repr(told), ahead)

    def test_each_asking_tells_a_list_of_its_own(self):
        plan = two_groups()
        for ask in (lambda: plan.free(), lambda: plan.groups(), lambda: plan.seats("bob"), lambda: plan.marks(9)):
            self.assertEqual(ask(), ask())
            self.assertIsNot(ask(), ask())

    def test_a_told_list_is_not_the_plan_itself(self):
        plan = two_groups()
        ahead = picture(plan)
        plan.groups().append("more")
        plan.seats("bob").clear()
        plan.free().clear()
        self.assertEqual(picture(plan), ahead)
        told = [plan.sit("carl", 1), plan.party([("dora", 1)])[0], plan.apart("emil", 1), plan.shift("carl", 3, 1)]
        ahead = picture(plan)
        for spots in told:
            spots.append((9, 9))
        self.assertEqual(picture(plan), ahead)
        plan.leave("carl").clear()
        plan.back()
        self.assertEqual(picture(plan), ahead)
        self.assertEqual(plan.seats("carl"), [(3, 1)])

    def test_two_plans_of_one_hall_know_nothing_of_each_other(self):
        rows = ["ooo", "oo"]
        one = Plan(rows)
        two = Plan(rows)
        one.sit("anna", 2)
        self.assertEqual(two.groups(), [])
        self.assertEqual(two.free(), [(0, 0, 3), (1, 0, 2)])
        two.sit("anna", 3)
        two.sit("bob", 1)
        self.assertEqual(one.groups(), ["anna"])
        self.assertEqual(one.seats("anna"), [(1, 0), (1, 1)])
        one.back()
        self.assertEqual(two.groups(), ["anna", "bob"])
        self.assertEqual(rows, ["ooo", "oo"])
