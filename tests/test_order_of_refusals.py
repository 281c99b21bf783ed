import itertools

from helpers import DeedTest
from seatplan.errors import BadName, BadSize, Known, NoRoom, NoSeat, Room, Taken, Unknown
from seatplan.plan import Plan


def a_plan():
    """Nine seats in two rows, four of them taken."""
    plan = Plan(["ooooo", "oo.oo"])
    plan.party([("anna", 2), ("bob", 1)])
    plan.sit("carl", 1)
    return plan


# A name and what it is refused with, for itself.
NAMES = [("dora", None), ("anna", Known), ("bob", Known), ("Anna", BadName), ("", BadName), (None, BadName),
         (["anna"], BadName), ({}, BadName)]
SIZES = [(1, None), (2, None), (3, NoRoom), (2400, NoRoom), (2401, BadSize), (0, BadSize), (True, BadSize),
         ("1", BadSize), ([], BadSize)]


def first_of(errors):
    for error in (BadName, BadSize, Known, NoRoom):
        if error in errors:
            return error
    return None


class OneGroupTest(DeedTest):
    def check(self, error, deed):
        if error is None:
            deed(a_plan())
        else:
            self.refused(error, a_plan, deed)

    def test_the_plan_has_what_the_table_tells(self):
        self.assertEqual(a_plan().free(), [(0, 4, 1), (1, 0, 2), (1, 3, 2)])

    def test_sit(self):
        for (name, wrong_name), (size, wrong_size) in itertools.product(NAMES, SIZES):
            with self.subTest(name=name, size=size):
                self.check(first_of([wrong_name, wrong_size]), lambda plan: plan.sit(name, size))

    def test_apart(self):
        sizes = [(3, None), (5, None), (6, NoRoom)] + [(size, wrong) for size, wrong in SIZES if size != 3]
        for (name, wrong_name), (size, wrong_size) in itertools.product(NAMES, sizes):
            with self.subTest(name=name, size=size):
                self.check(first_of([wrong_name, wrong_size]), lambda plan: plan.apart(name, size))

    def test_a_party_of_one(self):
        for (name, wrong_name), (size, wrong_size) in itertools.product(NAMES, SIZES):
            with self.subTest(name=name, size=size):
                self.check(first_of([wrong_name, wrong_size]), lambda plan: plan.party([(name, size)]))


class PartyTest(DeedTest):
    def check(self, error, pairs):
        ahead = repr(pairs)
        self.refused(error, a_plan, lambda plan: plan.party(pairs))
        self.assertEqual(repr(pairs), ahead)

    def test_group_by_group(self):
        faulty = [(("Dora", 1), BadName), (("Dora", 0), BadName), (("emil", 0), BadSize), (("anna", 0), BadSize),
                  (("anna", 1), Known), (("carl", 9), Known)]
        for (first, error), (second, _) in itertools.product(faulty, faulty):
            with self.subTest(first=first, second=second):
                self.check(error, [first, second])
                self.check(error, [("good", 1), first, second])
                self.check(error, [first, ("good", 1), second])
                self.check(error, [("good", 1), first, ("more", 2400), second])

    def test_no_room_behind_all_groups(self):
        self.check(NoRoom, [("dora", 2), ("emil", 1)])
        self.check(NoRoom, [("dora", 2400), ("emil", 1)])
        self.check(BadName, [("dora", 2400), ("Emil", 1)])
        self.check(BadSize, [("dora", 2400), ("emil", 2401)])
        self.check(Known, [("dora", 2400), ("anna", 1)])
        self.check(Known, [("dora", 2400), ("dora", 1)])

    def test_the_same_name_twice_in_one_party(self):
        self.check(Known, [("dora", 1), ("dora", 1)])
        self.check(Known, [("dora", 1), ("emil", 1), ("dora", 1)])
        self.check(Known, [("dora", 1), ("dora", 1), ("", 1)])
        self.check(Known, [("dora", 1), ("dora", 1), ("emil", 0)])
        self.check(BadSize, [("dora", 1), ("dora", 0)])
        self.check(BadSize, [("dora", 0), ("dora", 1)])

    def test_a_name_that_stands_behind_is_no_fault_of_the_first_one(self):
        self.check(Known, [("dora", 1), ("emil", 1), ("emil", 1)])
        self.check(BadName, [("dora", 1), ("", 1), ("dora", 1)])

    def test_a_name_of_a_refused_party_is_free_again(self):
        plan = a_plan()
        with self.assertRaises(Known):
            plan.party([("dora", 1), ("dora", 1)])
        with self.assertRaises(NoRoom):
            plan.party([("emil", 9)])
        self.assertEqual(len(plan.party([("dora", 1), ("emil", 1)])), 2)


class ShiftTest(DeedTest):
    def test_unknown_then_no_seat_then_taken(self):
        for name in ("dora", "", "Anna", None, 5, ["anna"], {}):
            with self.subTest(name=name):
                for row, first in [(0, 0), (0, 3), (1, 2), (9, 9), (-1, -1), (10 ** 40, 0)]:
                    self.refused(Unknown, a_plan, lambda plan: plan.shift(name, row, first))
        self.refused(NoSeat, a_plan, lambda plan: plan.shift("bob", 1, 2))
        self.refused(NoSeat, a_plan, lambda plan: plan.shift("anna", 1, 1))
        self.refused(Taken, a_plan, lambda plan: plan.shift("bob", 0, 0))
        self.refused(Taken, a_plan, lambda plan: plan.shift("anna", 0, 1))
        self.refused(Taken, a_plan, lambda plan: plan.shift("anna", 0, 2))


class MarksTest(DeedTest):
    def test_bad_size_then_room(self):
        for size, error in [(0, BadSize), (2401, BadSize), (True, BadSize), (None, BadSize), (1, Room), (2, Room)]:
            self.refused(error, a_plan, lambda plan: plan.marks(size))
        self.assertEqual(len(a_plan().marks(3)), 3)
