"""Points 1 to 9 together: long rows of deeds, beside a slow train that goes by the words."""

import unittest

from legseats.trains import Train
from tests.deeds import Numbers, answer, deed
from tests.helping import told
from tests.slow_train import SlowTrain


def fewest_parts(train, begin, end):
    """The fewest parts of any row of free seats over a stretch, found step by step."""
    seats = train.size()[0]
    reached = [begin]
    parts = 0
    while end not in reached:
        parts += 1
        reached = [
            stop
            for stop in range(begin, end + 1)
            if any(begin <= last <= stop <= train.farthest(seat, last) for last in reached for seat in range(seats))
        ]
    return parts


class BesideTheSlowTrain(unittest.TestCase):
    def run_deeds(self, seats, stops, begin, many):
        train, slow = Train(seats, stops), SlowTrain(seats, stops)
        numbers = Numbers(begin)
        for _ in range(many):
            name, args = deed(numbers, train)
            before = told(train)
            parts = dict(zip(before["tickets"], before["parts"]))
            wanted = answer(getattr(slow, name), *args)
            given = answer(getattr(train, name), *args)
            self.assertEqual(given, wanted, (name, args))
            self.check_state(train, slow)
            if isinstance(given, str):
                self.assertEqual(told(train), before)
            elif name == "reseat":
                self.assertLessEqual(len(given), len(parts[args[0]]))

    def check_state(self, train, slow):
        seats, stops = train.size()
        self.assertEqual(train.tickets(), slow.tickets())
        for ticket in train.tickets():
            parts = train.parts(ticket)
            self.assertEqual(parts, slow.parts(ticket))
            for ahead, behind in zip(parts, parts[1:]):
                self.assertEqual(ahead[2], behind[1])
        for seat in range(seats):
            for leg in range(stops - 1):
                self.assertEqual(train.holder(seat, leg), slow.holder(seat, leg))

    def check_questions(self, train, slow):
        seats, stops = train.size()
        for one in range(-2, stops + 2):
            self.assertEqual(answer(train.load, one), slow.load(one))
            for seat in range(-1, seats + 1):
                self.assertEqual(answer(train.farthest, seat, one), slow.farthest(seat, one))
                self.assertEqual(answer(train.holder, seat, one), slow.holder(seat, one))
            for other in range(-2, stops + 2):
                self.assertEqual(answer(train.blocked, one, other), slow.blocked(one, other))
                row = answer(train.row, one, other)
                self.assertEqual(row, slow.row(one, other))
                if isinstance(row, list):
                    self.assertEqual(len(row), fewest_parts(train, one, other))

    def test_many_deeds_on_small_trains(self):
        for seats, stops in [(1, 2), (1, 7), (2, 2), (2, 3), (2, 6), (3, 8), (4, 9)]:
            for begin in range(1, 5):
                with self.subTest((seats, stops, begin)):
                    self.run_deeds(seats, stops, begin, 80)

    def test_all_questions_after_some_deeds(self):
        for seats in range(1, 5):
            for stops in (2, 3, 6, 8):
                for begin in range(1, 5):
                    with self.subTest((seats, stops, begin)):
                        train, slow = Train(seats, stops), SlowTrain(seats, stops)
                        numbers = Numbers(begin * 977 + seats)
                        for _ in range(6 * seats):
                            name, args = deed(numbers, train)
                            self.assertEqual(answer(getattr(train, name), *args), answer(getattr(slow, name), *args))
                        self.check_questions(train, slow)

    def test_many_deeds_on_greater_trains(self):
        for seats, stops in [(5, 12), (7, 12), (12, 20)]:
            with self.subTest((seats, stops)):
                self.run_deeds(seats, stops, seats, 250)


if __name__ == "__main__":
    unittest.main()
