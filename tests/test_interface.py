"""The names of the interface, and point 1 where it speaks of clock, chance and files."""

import ast
import inspect
import os
import unittest

import legseats
from legseats import errors, notes, packing, trains

REFUSALS = ["NoTrain", "NoStretch", "NoSeat", "NoStop", "NoLeg", "NoTicket", "Full", "Shared", "NoText"]
METHODS = {
    "sell": ["begin", "end"],
    "back": ["ticket"],
    "leave": ["ticket", "stop"],
    "reseat": ["ticket"],
    "parts": ["ticket"],
    "tickets": [],
    "row": ["begin", "end"],
    "blocked": ["begin", "end"],
    "farthest": ["seat", "stop"],
    "holder": ["seat", "leg"],
    "load": ["leg"],
    "size": [],
}
LIBRARY = ("heapq", "math", "itertools", "collections")


def sources():
    folder = os.path.dirname(legseats.__file__)
    for name in sorted(os.listdir(folder)):
        if name.endswith(".py"):
            with open(os.path.join(folder, name), encoding="ascii") as file:
                yield name, file.read()


class Errors(unittest.TestCase):
    def test_any_refusal_is_a_value_error(self):
        self.assertEqual(errors.SeatError.__bases__, (ValueError,))

    def test_each_refusal_stands_under_seat_error_alone(self):
        for name in REFUSALS:
            with self.subTest(name):
                self.assertEqual(getattr(errors, name).__bases__, (errors.SeatError,))

    def test_errors_are_defined_in_their_file(self):
        for name in ["SeatError", *REFUSALS]:
            with self.subTest(name):
                self.assertEqual(getattr(errors, name).__module__, "legseats.errors")
                self.assertEqual(getattr(errors, name).__name__, name)


class Trains(unittest.TestCase):
    def test_train_is_defined_in_its_file(self):
        self.assertEqual(trains.Train.__module__, "legseats.trains")

    def test_train_takes_seats_and_stops(self):
        told = list(inspect.signature(trains.Train).parameters)
        self.assertEqual(told, ["seats", "stops"])
        self.assertEqual(trains.Train(stops=3, seats=2).size(), (2, 3))

    def test_each_method_stands_in_train_itself(self):
        for name, wanted in METHODS.items():
            with self.subTest(name):
                method = vars(trains.Train)[name]
                self.assertTrue(inspect.isfunction(method))
                self.assertEqual(list(inspect.signature(method).parameters), ["self", *wanted])

    def test_arguments_are_taken_by_their_names(self):
        train = trains.Train(2, 4)
        self.assertEqual(train.sell(begin=0, end=3), 0)
        self.assertEqual(train.leave(ticket=0, stop=2), [(0, 2, 3)])
        self.assertEqual(train.reseat(ticket=0), [(0, 0, 2)])
        self.assertEqual(train.parts(ticket=0), [(0, 0, 2)])
        self.assertEqual(train.row(begin=0, end=1), [(1, 0, 1)])
        self.assertIsNone(train.blocked(begin=0, end=1))
        self.assertEqual(train.farthest(seat=0, stop=2), 3)
        self.assertEqual(train.holder(seat=0, leg=1), 0)
        self.assertEqual(train.load(leg=1), 1)
        self.assertEqual(train.back(ticket=0), [(0, 0, 2)])


class PackingAndNotes(unittest.TestCase):
    def test_each_function_is_defined_in_its_file(self):
        for module, name, wanted in [
            (packing, "packed", ["train"]), (notes, "written", ["train"]), (notes, "read", ["text"])
        ]:
            with self.subTest(name):
                function = vars(module)[name]
                self.assertTrue(inspect.isfunction(function))
                self.assertEqual(function.__module__, module.__name__)
                self.assertEqual(list(inspect.signature(function).parameters), wanted)

    def test_arguments_are_taken_by_their_names(self):
        train = notes.read(text="train 2 4 3\nticket 1 1 0 3")
        self.assertIs(type(train), trains.Train)
        self.assertEqual(packing.packed(train=train), [(1, 0)])
        self.assertEqual(notes.written(train=train), "train 2 4 3\nticket 1 1 0 3")


class NoClockNoChanceNoFiles(unittest.TestCase):
    def test_only_the_package_and_plain_library_words_are_imported(self):
        for name, source in sources():
            for node in ast.walk(ast.parse(source)):
                with self.subTest(name):
                    self.assertNotIsInstance(node, ast.Import)
                    if isinstance(node, ast.ImportFrom):
                        self.assertIn(node.module.split(".")[0], ("legseats", *LIBRARY))

    def test_nothing_is_read_or_printed(self):
        for name, source in sources():
            called = [
                node.func.id
                for node in ast.walk(ast.parse(source))
                if isinstance(node, ast.Call) and isinstance(node.func, ast.Name)
            ]
            with self.subTest(name):
                self.assertEqual({"open", "input", "print", "eval", "exec"} & set(called), set())


if __name__ == "__main__":
    unittest.main()
