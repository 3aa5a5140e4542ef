"""Points 2 to 4: seats, stops, legs, who holds what, and where a seat leads."""

import unittest

from legseats.errors import NoTrain
from legseats.trains import Train
from tests.helping import held, refusal, told


class Sizes(unittest.TestCase):
    def test_the_least_and_the_most(self):
        for size in [(1, 2), (1, 60), (60, 2), (60, 60), (7, 9)]:
            with self.subTest(size):
                train = Train(*size)
                self.assertEqual(train.size(), size)
                self.assertIs(type(train.size()), tuple)

    def test_beyond_the_limits_there_is_no_train(self):
        many = 10 ** 5000
        for size in [
            (0, 2), (-1, 2), (61, 2), (1, 1), (1, 0), (1, -1), (1, 61),
            (0, 0), (61, 61), (-60, -60), (60, 61), (61, 60), (many, 2), (1, many), (-many, -many),
        ]:
            self.assertIs(refusal(Train, *size), NoTrain)

    def test_size_stays(self):
        train = Train(2, 5)
        train.sell(0, 4)
        train.sell(1, 3)
        train.back(0)
        self.assertEqual(train.size(), (2, 5))


class FreeAtFirst(unittest.TestCase):
    def test_all_is_free(self):
        for seats, stops in [(1, 2), (2, 5), (60, 2), (1, 60)]:
            with self.subTest((seats, stops)):
                train = Train(seats, stops)
                now = told(train)
                self.assertEqual(now["tickets"], [])
                self.assertEqual(now["holders"], [[None] * (stops - 1)] * seats)
                self.assertEqual(now["loads"], [0] * (stops - 1))
                self.assertEqual(now["farthest"], [[stops - 1] * stops] * seats)
                self.assertEqual(set(now["blocked"]), {None})

    def test_the_greatest_train_has_its_last_seat_leg_and_stop(self):
        train = Train(60, 60)
        self.assertIsNone(train.holder(59, 58))
        self.assertEqual(train.load(58), 0)
        self.assertEqual(train.farthest(59, 0), 59)
        self.assertEqual(train.farthest(59, 59), 59)
        self.assertEqual(train.row(0, 59), [(0, 0, 59)])

    def test_trains_do_not_share_anything(self):
        one, other = Train(2, 4), Train(2, 4)
        before = told(other)
        one.sell(0, 3)
        one.sell(1, 2)
        self.assertEqual(told(other), before)
        self.assertEqual(other.sell(0, 1), 0)


class HeldLegs(unittest.TestCase):
    def test_a_ticket_holds_the_legs_from_its_begin_to_ahead_of_its_end(self):
        train = Train(2, 6)
        self.assertEqual(train.sell(1, 3), 0)
        self.assertEqual([train.holder(0, leg) for leg in range(5)], [None, 0, 0, None, None])
        self.assertEqual([train.holder(1, leg) for leg in range(5)], [None] * 5)
        self.assertEqual([train.load(leg) for leg in range(5)], [0, 1, 1, 0, 0])

    def test_the_first_and_the_last_leg(self):
        train = Train(1, 4)
        self.assertEqual(train.sell(0, 1), 0)
        self.assertEqual(train.sell(2, 3), 1)
        self.assertEqual([train.holder(0, leg) for leg in range(3)], [0, None, 1])
        self.assertEqual([train.load(leg) for leg in range(3)], [1, 0, 1])

    def test_a_train_of_one_seat_and_one_leg(self):
        train = Train(1, 2)
        self.assertEqual(train.sell(0, 1), 0)
        self.assertEqual(train.holder(0, 0), 0)
        self.assertEqual(train.load(0), 1)
        self.assertEqual(train.blocked(0, 1), 0)

    def test_all_seats_of_a_full_train_are_held_by_different_tickets(self):
        train = Train(60, 60)
        tickets = [train.sell(0, 59) for _ in range(60)]
        self.assertEqual(tickets, list(range(60)))
        for leg in (0, 30, 58):
            self.assertEqual(train.load(leg), 60)
            self.assertEqual([train.holder(seat, leg) for seat in range(60)], tickets)

    def test_a_seat_is_sold_again_for_what_is_left_of_the_way(self):
        train = Train(1, 6)
        self.assertEqual([train.sell(2, 4), train.sell(0, 2), train.sell(4, 5)], [0, 1, 2])
        self.assertEqual([train.holder(0, leg) for leg in range(5)], [1, 1, 0, 0, 2])

    def test_load_counts_seats_and_not_tickets(self):
        train = Train(3, 4)
        train.sell(0, 3)
        train.sell(0, 1)
        train.sell(1, 3)
        train.sell(1, 2)
        self.assertEqual([train.load(leg) for leg in range(3)], [2, 3, 2])


class Farthest(unittest.TestCase):
    def test_a_seat_leads_to_where_it_is_held(self):
        train, _ = held(2, 7, (1, 2, 4))
        self.assertEqual([train.farthest(1, stop) for stop in range(7)], [2, 2, 2, 3, 6, 6, 6])
        self.assertEqual([train.farthest(0, stop) for stop in range(7)], [6] * 7)

    def test_the_ticket_with_the_number_nought_holds_too(self):
        train = Train(1, 4)
        self.assertEqual(train.sell(1, 2), 0)
        self.assertEqual([train.farthest(0, stop) for stop in range(4)], [1, 1, 3, 3])

    def test_a_seat_that_is_held_on_the_first_and_the_last_leg(self):
        train, _ = held(1, 5, (0, 0, 1), (0, 3, 4))
        self.assertEqual([train.farthest(0, stop) for stop in range(5)], [0, 3, 3, 3, 4])

    def test_from_the_last_stop_a_seat_leads_to_it(self):
        train = Train(2, 3)
        train.sell(0, 2)
        self.assertEqual(train.farthest(0, 2), 2)
        self.assertEqual(train.farthest(1, 2), 2)

    def test_between_two_tickets_that_touch_a_seat_leads_nowhere(self):
        train, _ = held(1, 6, (0, 1, 2), (0, 2, 4))
        self.assertEqual([train.farthest(0, stop) for stop in range(6)], [1, 1, 2, 3, 5, 5])


if __name__ == "__main__":
    unittest.main()
