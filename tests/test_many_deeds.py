import random
import unittest

from helpers import picture
from model import Model
from seatplan.errors import SeatError
from seatplan.hall import blocks_of
from seatplan.notes import drawn, read, written
from seatplan.plan import Plan

HALLS = [
    ["ooooo.oo", ".oooooo", "", "oo.o"],
    ["oooo"],
    ["o.o.oo.ooo", "ooo.oo.o"],
    ["ooo", "ooo", "ooo"],
    ["."],
    ["oooooooooooo", "oooooo..oooo", "o.oo.ooo.ooo"],
]
NAMES = ["a", "b", "c", "d", "e", "f", "", "A", None, 3, ["a"]]
SIZES = [1, 1, 1, 2, 2, 3, 3, 4, 5, 6, 9, 0, True, 2401, "1"]


def some_deed(chance):
    """The name of a method and what is handed to it."""
    name = chance.choice(NAMES)
    kind = chance.choice(["sit", "sit", "party", "apart", "leave", "shift", "shift", "back"])
    if kind in ("sit", "apart"):
        return kind, (name, chance.choice(SIZES))
    if kind == "party":
        many = chance.randrange(4)
        return kind, ([(chance.choice(NAMES), chance.choice(SIZES)) for _ in range(many)],)
    if kind == "leave":
        return kind, (name,)
    if kind == "shift":
        return kind, (name, chance.randrange(-1, 4), chance.randrange(-1, 12))
    return kind, ()


def answer(plan, kind, handed):
    """What a deed tells, or the class of what it is refused with."""
    method = getattr(plan, kind)
    try:
        return method(*handed)
    except SeatError as refusal:
        return type(refusal)


class ManyDeedsTest(unittest.TestCase):
    def check_looks(self, plan, model):
        self.assertEqual(plan.groups(), model.names())
        self.assertEqual([(name, plan.seats(name)) for name in plan.groups()], model.held)
        self.assertEqual(plan.free(), model.free())
        self.assertEqual(drawn(plan), model.drawn())
        for row in range(-1, len(model.rows) + 1):
            for place in range(-1, 13):
                seat = 0 <= row < len(model.rows) and 0 <= place < len(model.rows[row])
                if seat and model.rows[row][place] == "o":
                    self.assertEqual(plan.who(row, place), model.holder((row, place)))

    def check_marks(self, plan, model):
        for size in (1, 2, 3, 4, 7, 13, 0, None):
            told = answer(plan, "marks", (size,))
            wanted = answer(model, "marked_blocks", (size,))
            if isinstance(told, list):
                self.assertEqual([part[:3] for part in told], wanted)
                self.check_marks_of_blocks(told, model, size)
            else:
                self.assertIs(told, wanted)

    def check_marks_of_blocks(self, told, model, size):
        for row, first, many, marks in told:
            self.assertTrue(all(model.holder((row, mark)) is not None for mark in marks))
            self.assertEqual(marks, sorted(set(marks)))
            for start in range(first, first + many - size + 1):
                self.assertTrue(any(start <= mark < start + size for mark in marks))

    def check_notes(self, plan):
        again = read(plan.hall, written(plan))
        self.assertEqual(picture(again), picture(plan))
        self.assertEqual(written(again), written(plan))

    def test_the_plan_does_what_the_model_does(self):
        for seed in range(60):
            chance = random.Random(seed)
            rows = HALLS[seed % len(HALLS)]
            plan = Plan(rows)
            model = Model(rows)
            for step in range(60):
                kind, handed = some_deed(chance)
                with self.subTest(seed=seed, step=step, kind=kind, handed=handed):
                    self.assertEqual(answer(plan, kind, handed), answer(model, kind, handed))
                    self.check_looks(plan, model)
                if step % 10 == 0:
                    self.check_marks(plan, model)
                    self.check_notes(plan)
            self.check_ways_back(plan, model)

    def check_ways_back(self, plan, model):
        while model.kept:
            plan.back()
            model.back()
            self.check_looks(plan, model)
        self.assertEqual(answer(plan, "back", ()), answer(model, "back", ()))
        self.assertEqual(plan.free(), blocks_of(plan.hall))


if __name__ == "__main__":
    unittest.main()
