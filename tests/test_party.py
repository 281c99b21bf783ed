from helpers import DeedTest, side_by_side
from seatplan.errors import NoRoom, Nothing
from seatplan.plan import Plan


class PartyTest(DeedTest):
    def check(self, plan, pairs, seats):
        ahead = list(pairs)
        groups = plan.groups()
        told = plan.party(pairs)
        self.assertIs(type(told), list)
        self.assertEqual(len(told), len(seats))
        for spots, wanted in zip(told, seats):
            self.check_spots(spots, wanted)
        self.assertEqual(pairs, ahead)
        self.assertEqual(plan.groups(), groups + [name for name, _ in pairs])
        for (name, _), wanted in zip(pairs, seats):
            self.check_spots(plan.seats(name), wanted)
            self.assertEqual([plan.who(row, place) for row, place in wanted], [name] * len(wanted))

    def test_one_right_behind_the_other_in_their_order(self):
        self.check(Plan(["oooooo"]), [("a", 2), ("b", 1), ("c", 3)],
                   [side_by_side(0, 0, 2), [(0, 2)], side_by_side(0, 3, 3)])
        self.check(Plan(["...oooooo"]), [("z", 1), ("a", 3)], [[(0, 3)], side_by_side(0, 4, 3)])

    def test_one_group_alone_gets_what_it_would_get_by_itself(self):
        for size in range(1, 9):
            plan = Plan(["ooooo.oo", "ooo.oooooooo", "oooo"])
            by_itself = Plan(plan.hall).sit("anna", size)
            self.check(plan, [("anna", size)], [by_itself])

    def test_the_run_that_one_group_of_all_their_sizes_would_get(self):
        rows = ["ooooo.oo", "ooo.oooooooo", "oooo"]
        self.check(Plan(rows), [("a", 1), ("b", 1)], [[(0, 6)], [(0, 7)]])
        self.check(Plan(rows), [("a", 1), ("b", 3)], [[(2, 0)], side_by_side(2, 1, 3)])
        self.check(Plan(rows), [("a", 2), ("b", 2), ("c", 2)],
                   [side_by_side(1, 4, 2), side_by_side(1, 6, 2), side_by_side(1, 8, 2)])

    def test_of_equal_runs_the_first(self):
        self.check(Plan(["ooo", "oo.oo", "oo"]), [("a", 1), ("b", 1)], [[(1, 0)], [(1, 1)]])

    def test_behind_the_groups_that_are_there(self):
        plan = Plan(["oooooo"])
        plan.sit("first", 2)
        self.check(plan, [("a", 1), ("b", 2)], [[(0, 2)], [(0, 3), (0, 4)]])
        self.assertEqual(plan.groups(), ["first", "a", "b"])

    def test_sixty_groups(self):
        pairs = [("g" + str(at), 1) for at in range(60)]
        self.check(Plan(["o" * 60]), pairs, [[(0, at)] for at in range(60)])

    def test_more_than_sixty_groups_have_no_room_in_a_row(self):
        pairs = [("g" + str(at), 1) for at in range(61)]
        self.refused(NoRoom, lambda: Plan(["o" * 60] * 40), lambda plan: plan.party(pairs))

    def test_a_party_is_one_deed(self):
        plan = Plan(["oooooo"])
        plan.party([("a", 2), ("b", 1), ("c", 3)])
        plan.back()
        self.assertEqual(plan.groups(), [])
        self.assertEqual(plan.free(), [(0, 0, 6)])
        with self.assertRaises(Nothing):
            plan.back()

    def test_no_groups_do_nothing_and_are_no_deed(self):
        for rows in (["ooo"], ["."], [""]):
            plan = Plan(rows)
            self.check(plan, [], [])
            with self.assertRaises(Nothing):
                plan.back()
        plan = Plan(["ooo"])
        plan.sit("anna", 3)
        self.check(plan, [], [])
        self.assertEqual(plan.groups(), ["anna"])
        plan.back()
        self.assertEqual(plan.groups(), [])

    def test_no_groups_tell_a_list_of_its_own(self):
        plan = Plan(["ooo"])
        pairs = []
        self.assertIsNot(plan.party(pairs), pairs)


class NoRoomTest(DeedTest):
    def test_all_of_them_or_none(self):
        def made():
            plan = Plan(["ooo", "oooo"])
            plan.sit("there", 1)
            return plan

        self.refused(NoRoom, made, lambda plan: plan.party([("a", 1), ("b", 4)]))
        self.refused(NoRoom, made, lambda plan: plan.party([("a", 4), ("b", 1)]))
        self.refused(NoRoom, made, lambda plan: plan.party([("a", 1)] + [("b", 2400)]))

    def test_just_where_no_run_has_all_their_seats(self):
        self.assertEqual(len(Plan(["oo", "ooooo"]).party([("a", 3), ("b", 2)])), 2)
        self.refused(NoRoom, lambda: Plan(["oo", "ooooo"]), lambda plan: plan.party([("a", 3), ("b", 3)]))
        self.refused(NoRoom, lambda: Plan(["ooo", "ooo"]), lambda plan: plan.party([("a", 2), ("b", 2)]))
        self.refused(NoRoom, lambda: Plan(["ooo.ooo"]), lambda plan: plan.party([("a", 3), ("b", 3)]))
        self.refused(NoRoom, lambda: Plan(["."]), lambda plan: plan.party([("a", 1)]))

    def test_sizes_that_are_more_than_any_size_together(self):
        pairs = [("g" + str(at), 2400) for at in range(60)]
        self.refused(NoRoom, lambda: Plan(["o" * 60] * 40), lambda plan: plan.party(pairs))
