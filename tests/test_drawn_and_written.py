from helpers import DeedTest, picture
from seatplan.notes import drawn, written
from seatplan.plan import Plan


def three_groups():
    plan = Plan(["oo.ooo", ".oo", "", "..", "ooo"])
    plan.party([("anna", 2), ("bob", 1)])
    plan.sit("carl", 1)
    plan.apart("dora", 4)
    return plan


class DrawnTest(DeedTest):
    def check(self, plan, rows):
        ahead = picture(plan)
        told = drawn(plan)
        self.assertIs(type(told), list)
        self.assertEqual(told, rows)
        self.assertEqual(picture(plan), ahead)

    def test_a_new_plan_is_drawn_as_its_hall(self):
        for rows in (["oo.o"], [""], ["", "...", "o"], ["o" * 60] * 40, ["o"] * 40):
            plan = Plan(rows)
            self.check(plan, rows)
            self.assertIsNot(drawn(plan), plan.hall)

    def test_taken_seats(self):
        plan = three_groups()
        self.assertEqual(plan.seats("dora"), [(0, 1), (4, 0), (4, 1), (4, 2)])
        self.check(plan, ["##.###", ".oo", "", "..", "###"])
        plan.leave("dora")
        self.check(plan, ["#o.###", ".oo", "", "..", "ooo"])
        plan.shift("anna", 1, 1)
        self.check(plan, ["#o.oo#", ".##", "", "..", "ooo"])
        plan.back()
        self.check(plan, ["#o.###", ".oo", "", "..", "ooo"])

    def test_a_full_hall(self):
        plan = Plan(["o" * 60] * 40)
        plan.apart("all", 2400)
        self.check(plan, ["#" * 60] * 40)

    def test_what_was_drawn_stays(self):
        plan = Plan(["ooo"])
        told = drawn(plan)
        plan.sit("anna", 2)
        self.assertEqual(told, ["ooo"])
        self.check(plan, ["##o"])


class WrittenTest(DeedTest):
    def check(self, plan, lines):
        ahead = picture(plan)
        told = written(plan)
        self.assertIs(type(told), list)
        self.assertEqual(told, lines)
        self.assertEqual(picture(plan), ahead)

    def test_a_new_plan_has_no_lines(self):
        self.check(Plan(["oo.o"]), [])
        self.check(Plan([""]), [])

    def test_the_line_of_the_document(self):
        plan = Plan(["ooooo"])
        plan.sit("anna", 2)
        plan.shift("anna", 0, 3)
        self.check(plan, ["anna: 0.3 0.4"])

    def test_a_line_for_each_group_in_their_order(self):
        plan = three_groups()
        self.check(plan, ["anna: 0.3 0.4", "bob: 0.5", "carl: 0.0", "dora: 0.1 4.0 4.1 4.2"])
        plan.leave("anna")
        plan.sit("anna", 1)
        self.check(plan, ["bob: 0.5", "carl: 0.0", "dora: 0.1 4.0 4.1 4.2", "anna: 0.3"])
        plan.shift("bob", 0, 4)
        self.check(plan, ["bob: 0.4", "carl: 0.0", "dora: 0.1 4.0 4.1 4.2", "anna: 0.3"])

    def test_numbers_of_one_and_two_figures(self):
        rows = ["." * 60] * 9 + ["." * 9 + "oo"] + [""] * 28 + ["." * 60, "." * 58 + "oo"]
        plan = Plan(rows)
        plan.apart("x", 4)
        self.check(plan, ["x: 9.9 9.10 39.58 39.59"])

    def test_names_of_any_signs(self):
        plan = Plan(["oooo"])
        plan.party([("-", 1), ("0", 1), ("a-0123456789", 1)])
        self.check(plan, ["-: 0.0", "0: 0.1", "a-0123456789: 0.2"])

    def test_what_was_written_stays(self):
        plan = Plan(["ooo"])
        plan.sit("anna", 1)
        told = written(plan)
        plan.leave("anna")
        self.assertEqual(told, ["anna: 0.0"])
        self.check(plan, [])
