import inspect
import unittest

from seatplan import errors, hall, notes, plan, runs

FUNCTIONS = {
    hall: {"need_hall": ["rows"], "blocks_of": ["rows"], "is_seat": ["rows", "row", "place"]},
    runs: {"runs_of": ["rows", "taken"], "fitting": ["runs", "size"], "marks_of": ["block", "taken", "size"]},
    notes: {"drawn": ["plan"], "written": ["plan"], "read": ["rows", "lines"]},
}

METHODS = {
    "sit": ["name", "size"], "apart": ["name", "size"], "party": ["pairs"], "leave": ["name"],
    "shift": ["name", "row", "first"], "back": [], "free": [], "marks": ["size"], "groups": [], "seats": ["name"],
    "who": ["row", "place"],
}


def names_of_arguments(function):
    return list(inspect.signature(function).parameters)


class InterfaceTest(unittest.TestCase):
    def test_each_function_is_defined_in_its_file(self):
        for module, functions in FUNCTIONS.items():
            for name, arguments in functions.items():
                with self.subTest(name):
                    function = getattr(module, name)
                    self.assertTrue(inspect.isfunction(function))
                    self.assertEqual(function.__module__, module.__name__)
                    self.assertEqual(names_of_arguments(function), arguments)

    def test_each_method_is_defined_in_plan_itself(self):
        self.assertEqual(plan.Plan.__module__, "seatplan.plan")
        self.assertEqual(names_of_arguments(plan.Plan), ["rows"])
        for name, arguments in METHODS.items():
            with self.subTest(name):
                method = vars(plan.Plan)[name]
                self.assertTrue(inspect.isfunction(method))
                self.assertEqual(names_of_arguments(method), ["self"] + arguments)

    def test_arguments_by_their_names(self):
        told = plan.Plan(rows=["ooo", "oo"])
        self.assertEqual(told.sit(name="anna", size=2), [(1, 0), (1, 1)])
        self.assertEqual(told.apart(name="bob", size=1), [(0, 0)])
        self.assertEqual(told.party(pairs=[("carl", 1)]), [[(0, 1)]])
        self.assertEqual(told.shift(name="carl", row=0, first=2), [(0, 2)])
        self.assertEqual(told.who(row=0, place=2), "carl")
        self.assertEqual(told.marks(size=2), [(0, 0, 3, [0, 2]), (1, 0, 2, [0, 1])])
        self.assertEqual(told.seats(name="bob"), [(0, 0)])
        self.assertEqual(told.leave(name="bob"), [(0, 0)])
        self.assertEqual(notes.read(rows=["o"], lines=["anna: 0.0"]).groups(), ["anna"])

    def test_each_refusal_stands_in_its_file(self):
        for name in ("SeatError", "BadHall", "BadName", "BadSize", "Known", "Unknown", "NoSeat", "Taken", "NoRoom",
                     "Room", "Nothing", "BadLine"):
            self.assertEqual(getattr(errors, name).__module__, "seatplan.errors")


if __name__ == "__main__":
    unittest.main()
