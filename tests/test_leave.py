from helpers import OTHER_THINGS_AS_NAMES, TEXTS_THAT_ARE_NO_NAMES, DeedTest, side_by_side
from seatplan.errors import Unknown
from seatplan.plan import Plan


def three_groups():
    plan = Plan(["oooooo", "oo"])
    plan.sit("anna", 3)
    plan.party([("bob", 1), ("carl", 2)])
    return plan


class LeaveTest(DeedTest):
    def test_its_seats_are_free_again(self):
        plan = three_groups()
        self.assertEqual(plan.free(), [(1, 0, 2)])
        self.check_spots(plan.leave("bob"), [(0, 3)])
        self.assertEqual(plan.free(), [(0, 3, 1), (1, 0, 2)])
        self.assertIsNone(plan.who(0, 3))
        self.assertEqual(plan.groups(), ["anna", "carl"])
        self.check_spots(plan.leave("anna"), side_by_side(0, 0, 3))
        self.check_spots(plan.leave("carl"), side_by_side(0, 4, 2))
        self.assertEqual(plan.groups(), [])
        self.assertEqual(plan.free(), [(0, 0, 6), (1, 0, 2)])

    def test_the_others_keep_their_seats_and_their_order(self):
        for name in ("anna", "bob", "carl"):
            plan = three_groups()
            others = [other for other in plan.groups() if other != name]
            ahead = [plan.seats(other) for other in others]
            plan.leave(name)
            self.assertEqual(plan.groups(), others)
            self.assertEqual([plan.seats(other) for other in others], ahead)

    def test_a_group_that_sits_apart(self):
        plan = Plan(["o.oo.ooo"])
        spots = plan.apart("anna", 5)
        self.check_spots(plan.leave("anna"), spots)
        self.assertEqual(plan.free(), [(0, 0, 1), (0, 2, 2), (0, 5, 3)])

    def test_it_is_gone_then(self):
        def made():
            plan = three_groups()
            plan.leave("bob")
            return plan

        self.refused(Unknown, made, lambda plan: plan.leave("bob"))
        self.refused(Unknown, made, lambda plan: plan.seats("bob"))
        self.refused(Unknown, made, lambda plan: plan.shift("bob", 1, 0))


class UnknownTest(DeedTest):
    def check(self, name):
        for made in (three_groups, lambda: Plan(["ooo"])):
            self.refused(Unknown, made, lambda plan: plan.leave(name))
            self.refused(Unknown, made, lambda plan: plan.seats(name))
            self.refused(Unknown, made, lambda plan: plan.shift(name, 0, 0))

    def test_names_that_no_group_has(self):
        for name in ("ann", "annaa", "anna-", "dora", "b", "-", "0", "abcdefghijkl"):
            with self.subTest(name=name):
                self.check(name)

    def test_texts_that_are_no_names(self):
        for name in TEXTS_THAT_ARE_NO_NAMES:
            with self.subTest(name=name):
                self.check(name)

    def test_other_things(self):
        for name in OTHER_THINGS_AS_NAMES:
            with self.subTest(name=name):
                self.check(name)

    def test_a_thing_that_holds_itself(self):
        name = ["anna"]
        name.append(name)
        self.check(name)
