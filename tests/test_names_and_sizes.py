from helpers import GOOD_NAMES, WRONG_NAMES, WRONG_SIZES, DeedTest
from seatplan.errors import BadName, BadSize, NoRoom
from seatplan.plan import Plan


def a_plan():
    plan = Plan(["ooooo", "ooo"])
    plan.sit("there", 1)
    return plan


class NamesTest(DeedTest):
    def test_names(self):
        for name in GOOD_NAMES:
            with self.subTest(name=name):
                for deed in (lambda plan: plan.sit(name, 2), lambda plan: plan.apart(name, 2),
                             lambda plan: plan.party([(name, 2)])):
                    plan = a_plan()
                    deed(plan)
                    self.assertEqual(plan.groups(), ["there", name])
                    self.assertEqual(len(plan.seats(name)), 2)

    def test_each_sign_of_ascii_and_some_beyond(self):
        good = "abcdefghijklmnopqrstuvwxyz0123456789-"
        for sign in [chr(at) for at in range(0x250)]:
            for name in (sign, "a" + sign, sign + "0"):
                if sign in good:
                    self.assertEqual(len(a_plan().sit(name, 2)), 2)
                else:
                    with self.assertRaises(BadName):
                        a_plan().sit(name, 2)

    def test_what_is_no_name(self):
        for name in WRONG_NAMES:
            with self.subTest(name=name):
                self.refused(BadName, a_plan, lambda plan: plan.sit(name, 2))
                self.refused(BadName, a_plan, lambda plan: plan.apart(name, 2))
                self.refused(BadName, a_plan, lambda plan: plan.party([(name, 2)]))
                self.refused(BadName, a_plan, lambda plan: plan.party([("anna", 1), (name, 1), ("bob", 1)]))

    def test_a_thing_that_holds_itself(self):
        name = []
        name.append(name)
        self.refused(BadName, a_plan, lambda plan: plan.sit(name, 2))

    def test_a_name_is_not_changed(self):
        for name in (["anna"], {"anna": 1}, bytearray(b"anna")):
            ahead = repr(name)
            self.refused(BadName, a_plan, lambda plan: plan.sit(name, 2))
            self.assertEqual(repr(name), ahead)


class SizesTest(DeedTest):
    def test_sizes(self):
        for size in range(1, 8):
            self.assertEqual(len(a_plan().apart("anna", size)), size)
        for size in range(1, 61):
            self.assertEqual(len(Plan(["o" * 60]).sit("anna", size)), size)

    def test_the_largest_size(self):
        self.assertEqual(len(Plan(["o" * 60] * 40).apart("anna", 2400)), 2400)
        self.refused(NoRoom, a_plan, lambda plan: plan.sit("anna", 2400))
        self.refused(NoRoom, a_plan, lambda plan: plan.apart("anna", 2400))
        self.refused(NoRoom, a_plan, lambda plan: plan.party([("anna", 2400)]))

    def test_what_is_no_size(self):
        for size in WRONG_SIZES:
            with self.subTest(size=type(size)):
                self.refused(BadSize, a_plan, lambda plan: plan.sit("anna", size))
                self.refused(BadSize, a_plan, lambda plan: plan.apart("anna", size))
                self.refused(BadSize, a_plan, lambda plan: plan.party([("anna", size)]))
                self.refused(BadSize, a_plan, lambda plan: plan.party([("anna", 1), ("bob", size), ("carl", 1)]))
                self.refused(BadSize, a_plan, lambda plan: plan.marks(size))
