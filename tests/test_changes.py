"""Points 8 and 9: tickets that are given back, left at a stop, or seated anew."""

import unittest

from legseats.errors import NoStop, NoTicket
from legseats.trains import Train
from tests.helping import held, refusal, told


def changing():
    """A train, its ticket that changes from seat 0 to 1 to 2, and the other tickets."""
    train, others = held(3, 10, (0, 3, 9), (1, 0, 3), (1, 6, 9), (2, 0, 6))
    ticket = train.sell(0, 9)
    if train.parts(ticket) != [(0, 0, 3), (1, 3, 6), (2, 6, 9)]:
        raise AssertionError("the ticket does not change seats as wanted")
    return train, ticket, others


class Back(unittest.TestCase):
    def test_the_parts_are_told_and_free_again(self):
        train, ticket, _ = changing()
        self.assertEqual(train.back(ticket), [(0, 0, 3), (1, 3, 6), (2, 6, 9)])
        self.assertEqual([train.load(leg) for leg in range(9)], [2] * 9)
        self.assertEqual(train.farthest(0, 0), 3)
        self.assertEqual(train.farthest(2, 6), 9)

    def test_the_number_is_no_ticket_any_more(self):
        train, ticket, others = changing()
        train.back(ticket)
        self.assertEqual(train.tickets(), others)
        for call in (train.back, train.parts, train.reseat):
            self.assertIs(refusal(call, ticket), NoTicket)
        self.assertIs(refusal(train.leave, ticket, 4), NoTicket)

    def test_other_tickets_stay(self):
        train = Train(2, 4)
        for stretch in [(0, 2), (0, 3), (2, 3)]:
            train.sell(*stretch)
        train.back(1)
        self.assertEqual(train.tickets(), [0, 2])
        self.assertEqual([train.holder(0, leg) for leg in range(3)], [0, 0, 2])
        self.assertEqual([train.holder(1, leg) for leg in range(3)], [None] * 3)
        self.assertEqual(train.parts(2), [(0, 2, 3)])

    def test_the_first_ticket_on_one_leg(self):
        train = Train(1, 2)
        train.sell(0, 1)
        self.assertEqual(train.back(0), [(0, 0, 1)])
        self.assertIsNone(train.holder(0, 0))
        self.assertEqual(train.load(0), 0)


class Leave(unittest.TestCase):
    def check(self, stop, freed, kept):
        train, ticket, others = changing()
        others_parts = [train.parts(other) for other in others]
        self.assertEqual(train.leave(ticket, stop), freed)
        self.assertEqual(train.parts(ticket), kept)
        self.assertIn(ticket, train.tickets())
        self.assertEqual([train.parts(other) for other in others], others_parts)
        self.assertEqual([train.load(leg) for leg in range(9)], [3] * stop + [2] * (9 - stop))
        for seat, begin, end in freed:
            self.assertEqual([train.holder(seat, leg) for leg in range(begin, end)], [None] * (end - begin))
        for seat, begin, end in kept:
            self.assertEqual([train.holder(seat, leg) for leg in range(begin, end)], [ticket] * (end - begin))

    def test_within_the_first_part(self):
        self.check(1, [(0, 1, 3), (1, 3, 6), (2, 6, 9)], [(0, 0, 1)])
        self.check(2, [(0, 2, 3), (1, 3, 6), (2, 6, 9)], [(0, 0, 2)])

    def test_within_a_part_in_the_middle(self):
        self.check(4, [(1, 4, 6), (2, 6, 9)], [(0, 0, 3), (1, 3, 4)])
        self.check(5, [(1, 5, 6), (2, 6, 9)], [(0, 0, 3), (1, 3, 5)])

    def test_within_the_last_part(self):
        self.check(7, [(2, 7, 9)], [(0, 0, 3), (1, 3, 6), (2, 6, 7)])
        self.check(8, [(2, 8, 9)], [(0, 0, 3), (1, 3, 6), (2, 6, 8)])

    def test_where_one_part_ends_and_the_next_begins(self):
        self.check(3, [(1, 3, 6), (2, 6, 9)], [(0, 0, 3)])
        self.check(6, [(2, 6, 9)], [(0, 0, 3), (1, 3, 6)])

    def test_only_behind_the_begin_and_ahead_of_the_end(self):
        train = Train(2, 8)
        train.sell(0, 7)
        train.sell(2, 5)
        before = told(train)
        for stop in (-1, 0, 1, 2, 5, 6, 7, 8, 60, 10 ** 5000):
            self.assertIs(refusal(train.leave, 1, stop), NoStop)
        self.assertIs(refusal(train.leave, 0, 0), NoStop)
        self.assertIs(refusal(train.leave, 0, 7), NoStop)
        self.assertEqual(told(train), before)
        self.assertEqual(train.leave(1, 3), [(1, 3, 5)])
        self.assertEqual(train.leave(0, 6), [(0, 6, 7)])
        self.assertEqual(train.leave(0, 1), [(0, 1, 6)])

    def test_a_ticket_of_one_leg_cannot_be_left(self):
        train = Train(1, 4)
        train.sell(1, 2)
        for stop in range(-1, 5):
            self.assertIs(refusal(train.leave, 0, stop), NoStop)

    def test_the_stretch_ends_there_now(self):
        train = Train(1, 8)
        train.sell(0, 7)
        self.assertEqual(train.leave(0, 4), [(0, 4, 7)])
        for stop in (4, 5, 6, 7):
            self.assertIs(refusal(train.leave, 0, stop), NoStop)
        self.assertEqual(train.leave(0, 2), [(0, 2, 4)])
        self.assertEqual(train.sell(2, 7), 1)
        self.assertEqual(train.reseat(0), [(0, 0, 2)])
        self.assertEqual(train.back(0), [(0, 0, 2)])
        self.assertEqual(train.parts(1), [(0, 2, 7)])

    def test_what_is_free_again_is_sold_again_and_stays_sold(self):
        train, ticket, _ = changing()
        train.leave(ticket, 4)
        other = train.sell(4, 9)
        self.assertEqual(train.parts(other), [(1, 4, 6), (2, 6, 9)])
        self.assertEqual(train.back(ticket), [(0, 0, 3), (1, 3, 4)])
        self.assertEqual([train.load(leg) for leg in range(9)], [2] * 4 + [3] * 5)
        self.assertEqual(train.holder(1, 4), other)


class Reseat(unittest.TestCase):
    def test_a_ticket_takes_the_seat_that_is_free_all_the_way_now(self):
        train, ticket, others = changing()
        train.back(others[1])
        train.back(others[2])
        self.assertEqual(train.reseat(ticket), [(1, 0, 9)])
        self.assertEqual(train.parts(ticket), [(1, 0, 9)])
        self.assertEqual([train.holder(1, leg) for leg in range(9)], [ticket] * 9)
        self.assertIsNone(train.holder(0, 0))
        self.assertIsNone(train.holder(2, 8))
        self.assertEqual([train.load(leg) for leg in range(9)], [2, 2, 2, 3, 3, 3, 2, 2, 2])

    def test_its_own_legs_are_free_to_it(self):
        train = Train(1, 4)
        train.sell(0, 3)
        self.assertEqual(train.reseat(0), [(0, 0, 3)])
        train, (left, right) = held(2, 7, (0, 3, 6), (1, 0, 3))
        ticket = train.sell(0, 6)
        self.assertEqual(train.parts(ticket), [(0, 0, 3), (1, 3, 6)])
        train.back(left)
        self.assertEqual(train.reseat(ticket), [(0, 0, 6)])
        self.assertEqual(train.parts(right), [(1, 0, 3)])

    def test_where_nothing_is_better_all_stays(self):
        train, ticket, _ = changing()
        before = told(train)
        self.assertEqual(train.reseat(ticket), [(0, 0, 3), (1, 3, 6), (2, 6, 9)])
        self.assertEqual(told(train), before)

    def test_a_lesser_seat_is_taken_where_it_leads_equally_far(self):
        train = Train(3, 4)
        for _ in range(3):
            train.sell(0, 3)
        train.back(0)
        self.assertEqual(train.reseat(2), [(0, 0, 3)])
        self.assertEqual(train.reseat(1), [(1, 0, 3)])
        self.assertEqual(train.holder(0, 1), 2)
        self.assertIsNone(train.holder(2, 1))

    def test_it_keeps_its_number(self):
        train, ticket, others = changing()
        train.back(others[0])
        tickets = train.tickets()
        train.reseat(ticket)
        train.reseat(others[3])
        self.assertEqual(train.tickets(), tickets)
        self.assertEqual(train.sell(3, 6), tickets[-1] + 1)

    def test_it_keeps_its_stretch(self):
        train, _ = held(2, 8, (0, 2, 6))
        ticket = train.sell(2, 6)
        train.leave(ticket, 5)
        self.assertEqual(train.reseat(ticket), [(1, 2, 5)])
        self.assertEqual(train.farthest(1, 5), 7)
        self.assertEqual(train.farthest(1, 0), 2)

    def test_it_is_found_anew_with_as_many_changes(self):
        train, (first, second, third) = held(3, 7, (0, 1, 6), (1, 3, 6), (2, 0, 3))
        ticket = train.sell(0, 6)
        self.assertEqual(train.parts(ticket), [(1, 0, 3), (2, 3, 6)])
        train.back(first)
        again = train.sell(5, 6)
        self.assertEqual(train.parts(again), [(0, 5, 6)])
        self.assertEqual(train.reseat(ticket), [(0, 0, 5), (2, 5, 6)])
        self.assertEqual([train.parts(other) for other in (second, third)], [[(1, 3, 6)], [(2, 0, 3)]])


if __name__ == "__main__":
    unittest.main()
