"""The refusals of the interface, which goes first, and that they change nothing."""

import unittest

from legseats.errors import Full, NoLeg, NoSeat, NoStop, NoStretch, NoTicket
from legseats.trains import Train
from tests.helping import refusal, told

MANY = 10 ** 5000
NO_STRETCHES = [
    (0, 0), (2, 2), (4, 4), (1, 0), (4, 0), (3, 2),
    (-1, 2), (-1, 0), (-2, -1), (-1, -1), (0, -1), (3, -1),
    (0, 5), (3, 5), (4, 5), (5, 6), (5, 5), (6, 5), (-1, 5), (0, 60),
    (-MANY, 2), (0, MANY), (MANY, MANY + 1), (-MANY, MANY),
]


def some_train():
    """Two seats, five stops; leg 1 is full; ticket 2 was given back."""
    train = Train(2, 5)
    for stretch in [(0, 3), (1, 2), (3, 4)]:
        train.sell(*stretch)
    train.back(2)
    return train


class Refusals(unittest.TestCase):
    def setUp(self):
        self.train = some_train()
        self.before = told(self.train)

    def refused(self, error, call, *args):
        self.assertIs(refusal(call, *args), error)

    def tearDown(self):
        self.assertEqual(told(self.train), self.before)
        self.assertEqual(self.train.sell(0, 1), 3)

    def test_no_stretch(self):
        for begin, end in NO_STRETCHES:
            for call in (self.train.sell, self.train.row, self.train.blocked):
                self.refused(NoStretch, call, begin, end)

    def test_full(self):
        for stretch in [(1, 2), (0, 2), (1, 4), (0, 4)]:
            self.refused(Full, self.train.sell, *stretch)
            self.refused(Full, self.train.row, *stretch)
            self.assertEqual(self.train.blocked(*stretch), 1)

    def test_no_stretch_goes_ahead_of_full(self):
        for stretch in [(1, 1), (2, 1), (-1, 2), (1, 5), (1, 60), (-1, 60), (3, 0)]:
            self.refused(NoStretch, self.train.sell, *stretch)
            self.refused(NoStretch, self.train.row, *stretch)
            self.refused(NoStretch, self.train.blocked, *stretch)

    def test_no_ticket(self):
        for ticket in (-1, -2, 2, 3, 300, MANY, -MANY):
            for call in (self.train.back, self.train.reseat, self.train.parts):
                self.refused(NoTicket, call, ticket)
            self.refused(NoTicket, self.train.leave, ticket, 1)

    def test_no_ticket_goes_ahead_of_no_stop(self):
        for ticket in (-1, 2, 3):
            for stop in (-1, 0, 5, MANY):
                self.refused(NoTicket, self.train.leave, ticket, stop)

    def test_no_stop_where_a_ticket_is_left(self):
        for stop in (-3, -2, -1, 0, 3, 4, 5, MANY, -MANY):
            self.refused(NoStop, self.train.leave, 0, stop)
        for stop in (-1, 0, 1, 2, 3, 4, 5):
            self.refused(NoStop, self.train.leave, 1, stop)

    def test_no_seat(self):
        for seat in (-1, -2, 2, 3, 60, MANY, -MANY):
            self.refused(NoSeat, self.train.farthest, seat, 0)
            self.refused(NoSeat, self.train.holder, seat, 0)

    def test_no_stop_from_which_a_seat_could_lead(self):
        for stop in (-1, -2, 5, 6, 60, MANY, -MANY):
            self.refused(NoStop, self.train.farthest, 0, stop)
            self.refused(NoStop, self.train.farthest, 1, stop)
        self.assertEqual(self.train.farthest(0, 4), 4)

    def test_no_leg(self):
        for leg in (-1, -2, 4, 5, 60, MANY, -MANY):
            self.refused(NoLeg, self.train.holder, 0, leg)
            self.refused(NoLeg, self.train.holder, 1, leg)
            self.refused(NoLeg, self.train.load, leg)
        self.assertIsNone(self.train.holder(0, 3))
        self.assertEqual(self.train.load(3), 0)

    def test_no_seat_goes_ahead_of_no_stop_and_no_leg(self):
        for seat in (-1, 2, MANY):
            for at in (-1, 5, MANY):
                self.refused(NoSeat, self.train.farthest, seat, at)
                self.refused(NoSeat, self.train.holder, seat, at)


class RefusalsOfTheLeastTrain(unittest.TestCase):
    def test_one_seat_and_one_leg(self):
        train = Train(1, 2)
        self.assertIs(refusal(train.holder, 0, 1), NoLeg)
        self.assertIs(refusal(train.holder, 1, 0), NoSeat)
        self.assertIs(refusal(train.load, 1), NoLeg)
        self.assertIs(refusal(train.farthest, 0, 2), NoStop)
        self.assertIs(refusal(train.parts, 0), NoTicket)
        self.assertIs(refusal(train.leave, 0, 0), NoTicket)
        self.assertIs(refusal(train.sell, 0, 2), NoStretch)
        self.assertEqual(train.sell(0, 1), 0)
        self.assertIs(refusal(train.sell, 0, 1), Full)
        self.assertIs(refusal(train.leave, 0, 1), NoStop)


if __name__ == "__main__":
    unittest.main()
