import copy

from helpers import WRONG_HALLS, DeedTest, picture
from seatplan.errors import BadHall
from seatplan.notes import drawn, read, written
from seatplan.plan import Plan


class PlanHallTest(DeedTest):
    def test_the_rows_as_a_list(self):
        for rows in (["oo.o"], [""], ["", ".", "o"], ["o" * 60] * 40, ["o"] * 40):
            for plan in (Plan(rows), read(rows, [])):
                self.assertIs(type(plan.hall), list)
                self.assertEqual(plan.hall, rows)
                self.assertEqual(plan.groups(), [])

    def test_what_is_no_hall(self):
        for rows in WRONG_HALLS:
            with self.subTest(rows=rows):
                with self.assertRaises(BadHall) as caught:
                    Plan(rows)
                self.assertIs(type(caught.exception), BadHall)

    def test_what_is_refused_is_not_changed(self):
        for rows in ([], ["o"] * 41, ["o" * 61], ["ox"], ["o", ["o"]], {"o": "."}):
            ahead = copy.deepcopy(rows)
            for made in (Plan, lambda hall: read(hall, [])):
                with self.assertRaises(BadHall):
                    made(rows)
                self.assertEqual(rows, ahead)

    def test_the_hall_that_was_handed_in_stays_through_all_deeds(self):
        rows = ["ooooo.oo", ".oooooo"]
        plan = Plan(rows)
        plan.sit("anna", 2)
        plan.party([("bob", 1), ("carl", 2)])
        plan.apart("dora", 4)
        plan.shift("bob", 0, 3)
        plan.leave("anna")
        plan.marks(9)
        plan.back()
        drawn(plan)
        written(plan)
        self.assertEqual(rows, ["ooooo.oo", ".oooooo"])
        self.assertEqual(plan.hall, rows)

    def test_the_plan_holds_a_list_of_its_own(self):
        rows = ["ooo"]
        plan = Plan(rows)
        rows.append("ooo")
        self.assertEqual(plan.hall, ["ooo"])
        self.assertEqual(picture(plan), picture(Plan(["ooo"])))
