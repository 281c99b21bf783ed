import itertools

from helpers import WRONG_SIZES, DeedTest
from seatplan.errors import BadSize, Room
from seatplan.hall import blocks_of
from seatplan.plan import Plan
from seatplan.runs import fitting


def with_taken(rows, spots):
    """A plan in which single groups have just these seats."""
    plan = Plan(rows)
    seats = [(row, place) for row, signs in enumerate(rows) for place, sign in enumerate(signs) if sign == "o"]
    for at in range(len(seats)):
        plan.sit("g" + str(at), 1)
    for name in plan.groups():
        if plan.seats(name)[0] not in spots:
            plan.leave(name)
    return plan


class MarksTest(DeedTest):
    def check(self, plan, size):
        told = plan.marks(size)
        self.assertIs(type(told), list)
        blocks = blocks_of(plan.hall)
        self.assertEqual([part[:3] for part in told], blocks)
        for part in told:
            self.assertIs(type(part), tuple)
            self.assertEqual([type(what) for what in part], [int, int, int, list])
            row, first, many, marks = part
            self.assertEqual(marks, sorted(set(marks)))
            for mark in marks:
                self.assertIs(type(mark), int)
                self.assertIn(mark, range(first, first + many))
                self.assertIsNotNone(plan.who(row, mark))
            for start in range(first, first + many - size + 1):
                self.assertTrue(any(start <= mark < start + size for mark in marks), (plan.hall, size, part))

    def test_a_full_hall(self):
        for rows in (["ooo"], ["oo.ooo", ".oo"], ["o" * 60] * 40):
            plan = Plan(rows)
            plan.apart("all", sum(signs.count("o") for signs in rows))
            for size in (1, 2, 3, 60, 61, 2400):
                self.check(plan, size)

    def test_sizes_that_no_block_has(self):
        plan = Plan(["oo.ooo", ".oo"])
        for size in (4, 5, 60, 2400):
            self.check(plan, size)

    def test_a_hall_without_seats(self):
        for rows in ([""], ["...", ""]):
            for size in (1, 2400):
                self.assertEqual(Plan(rows).marks(size), [])

    def test_blocks_that_are_shorter_than_the_size_are_told_too(self):
        plan = Plan(["o.oo", "", ".ooo"])
        told = plan.marks(4)
        self.assertEqual([part[:3] for part in told], [(0, 0, 1), (0, 2, 2), (2, 1, 3)])

    def test_a_group_in_the_middle(self):
        plan = Plan(["ooooo"])
        plan.sit("anna", 1)
        plan.shift("anna", 0, 2)
        self.assertEqual(plan.marks(3), [(0, 0, 5, [2])])
        self.assertEqual(plan.marks(4), [(0, 0, 5, [2])])

    def test_each_taking_of_some_seats_and_each_size(self):
        for rows in (["oooo.o"], ["ooo", ".oo"], ["oo.oo", "o"]):
            seats = [(row, place) for row, signs in enumerate(rows) for place, sign in enumerate(signs) if sign == "o"]
            for many in range(len(seats) + 1):
                for spots in itertools.combinations(seats, many):
                    plan = with_taken(rows, spots)
                    for size in range(1, 7):
                        if fitting(plan.free(), size) is None:
                            self.check(plan, size)
                        else:
                            with self.assertRaises(Room) as caught:
                                plan.marks(size)
                            self.assertIs(type(caught.exception), Room)

    def test_marks_change_nothing_and_later_deeds_do_not_change_them(self):
        plan = Plan(["ooooo"])
        plan.sit("anna", 4)
        told = plan.marks(2)
        ahead = [(row, first, many, list(marks)) for row, first, many, marks in told]
        plan.leave("anna")
        plan.sit("bob", 5)
        self.assertEqual(told, ahead)
        self.assertEqual(plan.groups(), ["bob"])


class RefusedMarksTest(DeedTest):
    def test_room_just_where_a_group_of_the_size_could_sit(self):
        def made():
            plan = Plan(["oooooo", "oo"])
            plan.sit("anna", 2)
            plan.sit("bob", 3)
            return plan

        self.assertEqual(made().free(), [(0, 3, 3)])
        for size in (1, 2, 3):
            self.refused(Room, made, lambda plan: plan.marks(size))
            self.assertEqual(len(made().sit("carl", size)), size)
        for size in (4, 5, 2400):
            self.assertEqual([part[:3] for part in made().marks(size)], [(0, 0, 6), (1, 0, 2)])

    def test_room_apart_is_no_room(self):
        plan = Plan(["oo.oo"])
        self.assertEqual(len(plan.apart("anna", 3)), 3)
        plan.back()
        self.assertEqual([part[:3] for part in plan.marks(3)], [(0, 0, 2), (0, 3, 2)])

    def test_room_in_a_new_plan(self):
        for size in (1, 30, 60):
            self.refused(Room, lambda: Plan(["o" * 60] * 40), lambda plan: plan.marks(size))

    def test_what_is_no_size(self):
        def full():
            plan = Plan(["ooo"])
            plan.sit("anna", 3)
            return plan

        for size in WRONG_SIZES:
            with self.subTest(size=type(size)):
                self.refused(BadSize, full, lambda plan: plan.marks(size))
                self.refused(BadSize, lambda: Plan(["ooo"]), lambda plan: plan.marks(size))
                self.refused(BadSize, lambda: Plan([""]), lambda plan: plan.marks(size))
