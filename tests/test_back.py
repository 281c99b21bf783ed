from helpers import DeedTest, picture, side_by_side, trail
from seatplan.errors import BadName, BadSize, Known, NoRoom, NoSeat, Nothing, Taken, Unknown
from seatplan.plan import Plan

DEEDS = [
    lambda plan: plan.sit("anna", 3),
    lambda plan: plan.party([("bob", 1), ("carl", 2)]),
    lambda plan: plan.apart("dora", 4),
    lambda plan: plan.leave("bob"),
    lambda plan: plan.shift("carl", 0, 6),
    lambda plan: plan.sit("bob", 2),
    lambda plan: plan.shift("anna", 0, 0),
    lambda plan: plan.leave("anna"),
    lambda plan: plan.shift("carl", 3, 0),
    lambda plan: plan.leave("dora"),
    lambda plan: plan.apart("anna", 5),
    lambda plan: plan.party([("emil", 2)]),
    lambda plan: plan.leave("emil"),
    lambda plan: plan.leave("carl"),
    lambda plan: plan.leave("bob"),
    lambda plan: plan.leave("anna"),
]


def start():
    return Plan(["ooooo.oo", ".oooooo", "o.o.o", "oooo"])


class BackTest(DeedTest):
    def test_each_kind_of_deed(self):
        for deed in (DEEDS[0], DEEDS[1], DEEDS[2]):
            plan = start()
            ahead = picture(plan)
            deed(plan)
            self.assertNotEqual(picture(plan), ahead)
            self.assertIsNone(plan.back())
            self.assertEqual(picture(plan), ahead)

    def test_behind_each_of_many_deeds(self):
        for many in range(len(DEEDS)):
            plan = start()
            for deed in DEEDS[:many]:
                deed(plan)
            ahead = picture(plan)
            DEEDS[many](plan)
            self.assertIsNone(plan.back())
            self.assertEqual(picture(plan), ahead)

    def test_several_one_behind_the_other(self):
        plan = start()
        pictures = [picture(plan)]
        for deed in DEEDS:
            deed(plan)
            pictures.append(picture(plan))
        self.assertEqual(trail(plan), list(reversed(pictures)))

    def test_a_group_that_left_comes_back_to_its_place(self):
        for name in ("a", "b", "c"):
            plan = Plan(["oooooo"])
            plan.party([("a", 1), ("b", 2), ("c", 3)])
            plan.leave(name)
            plan.back()
            self.assertEqual(plan.groups(), ["a", "b", "c"])
            self.assertEqual([plan.seats(name) for name in "abc"],
                             [[(0, 0)], side_by_side(0, 1, 2), side_by_side(0, 3, 3)])

    def test_a_shift_onto_its_own_seats_is_a_deed(self):
        plan = Plan(["ooo"])
        plan.sit("anna", 2)
        plan.shift("anna", 0, 0)
        plan.back()
        self.assertEqual(plan.groups(), ["anna"])
        plan.back()
        self.assertEqual(plan.groups(), [])

    def test_taking_back_can_not_be_taken_back(self):
        plan = Plan(["oooo"])
        plan.sit("a", 1)
        plan.sit("b", 1)
        plan.sit("c", 1)
        plan.back()
        self.assertEqual(plan.groups(), ["a", "b"])
        plan.back()
        self.assertEqual(plan.groups(), ["a"])
        plan.back()
        self.assertEqual(plan.groups(), [])
        with self.assertRaises(Nothing):
            plan.back()

    def test_deeds_behind_one_that_was_taken_back(self):
        plan = Plan(["oooo"])
        plan.sit("a", 1)
        plan.sit("b", 2)
        plan.back()
        plan.sit("c", 3)
        self.assertEqual(plan.groups(), ["a", "c"])
        plan.back()
        self.assertEqual(plan.groups(), ["a"])
        self.assertEqual(plan.free(), [(0, 1, 3)])
        plan.back()
        self.assertEqual(plan.groups(), [])

    def test_a_name_may_come_again_when_its_coming_was_taken_back(self):
        plan = Plan(["oooo"])
        plan.sit("anna", 1)
        plan.back()
        self.check_spots(plan.sit("anna", 2), [(0, 0), (0, 1)])


class NothingTest(DeedTest):
    def test_a_new_plan(self):
        self.refused(Nothing, start, lambda plan: plan.back())
        self.refused(Nothing, lambda: Plan([""]), lambda plan: plan.back())

    def test_all_taken_back(self):
        def made():
            plan = start()
            for deed in DEEDS:
                deed(plan)
            for _ in DEEDS:
                plan.back()
            return plan

        self.refused(Nothing, made, lambda plan: plan.back())
        self.assertEqual(picture(made()), picture(start()))

    def test_a_plan_can_be_used_behind_the_refusal(self):
        plan = start()
        for _ in range(3):
            with self.assertRaises(Nothing):
                plan.back()
        plan.sit("anna", 2)
        plan.back()
        with self.assertRaises(Nothing):
            plan.back()

    def test_what_is_only_looked_at_is_no_deed(self):
        plan = start()
        plan.groups()
        plan.free()
        plan.marks(2400)
        plan.who(0, 0)
        self.refused(Nothing, lambda: plan, lambda plan: plan.back())
        plan.sit("anna", 2)
        plan.seats("anna")
        plan.marks(2400)
        plan.free()
        plan.back()
        self.assertEqual(plan.groups(), [])

    def test_a_refused_deed_is_no_deed(self):
        refused = [
            (BadName, lambda plan: plan.sit("", 1)),
            (BadSize, lambda plan: plan.sit("bob", 0)),
            (Known, lambda plan: plan.sit("anna", 1)),
            (NoRoom, lambda plan: plan.sit("bob", 9)),
            (BadName, lambda plan: plan.party([("bob", 1), ("", 1)])),
            (BadSize, lambda plan: plan.party([("bob", 1), ("carl", 0)])),
            (Known, lambda plan: plan.party([("bob", 1), ("bob", 1)])),
            (NoRoom, lambda plan: plan.party([("bob", 5), ("carl", 5)])),
            (Known, lambda plan: plan.apart("anna", 1)),
            (NoRoom, lambda plan: plan.apart("bob", 2400)),
            (Unknown, lambda plan: plan.leave("bob")),
            (Unknown, lambda plan: plan.shift("bob", 0, 0)),
            (NoSeat, lambda plan: plan.shift("anna", 9, 0)),
        ]

        def made():
            plan = start()
            plan.sit("anna", 3)
            plan.shift("anna", 0, 1)
            return plan

        for error, deed in refused:
            self.refused(error, made, deed)

    def test_a_refused_shift_onto_a_taken_seat_is_no_deed(self):
        def made():
            plan = start()
            plan.sit("anna", 3)
            plan.sit("bob", 3)
            return plan

        seat = made().seats("bob")[0]
        self.refused(Taken, made, lambda plan: plan.shift("anna", seat[0], seat[1]))
