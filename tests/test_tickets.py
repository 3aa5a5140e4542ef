"""Points 5 to 7: tickets, how their parts are found, and which stretch is blocked."""

import unittest

from legseats.errors import Full
from legseats.trains import Train
from tests.helping import held, refusal, told


class Numbers(unittest.TestCase):
    def test_tickets_are_numbered_as_they_are_sold(self):
        train = Train(3, 4)
        self.assertEqual([train.sell(2, 3), train.sell(0, 3), train.sell(0, 1)], [0, 1, 2])
        self.assertEqual(train.tickets(), [0, 1, 2])

    def test_no_number_comes_twice(self):
        train = Train(2, 3)
        train.sell(0, 2)
        train.sell(0, 1)
        train.back(0)
        self.assertEqual(train.sell(0, 1), 2)
        train.back(2)
        self.assertEqual(train.sell(1, 2), 3)
        self.assertEqual(train.tickets(), [1, 3])

    def test_numbers_go_on_where_all_tickets_were_given_back(self):
        train = Train(1, 2)
        for number in range(5):
            self.assertEqual(train.sell(0, 1), number)
            train.back(number)
        self.assertEqual(train.tickets(), [])

    def test_a_refused_sale_takes_no_number(self):
        train = Train(1, 3)
        train.sell(0, 1)
        for _ in range(3):
            refusal(train.sell, 0, 2)
            refusal(train.sell, 2, 1)
        self.assertEqual(train.sell(1, 2), 1)

    def test_asking_leaving_and_seating_anew_take_no_number(self):
        train = Train(1, 5)
        train.sell(0, 4)
        train.leave(0, 2)
        train.reseat(0)
        train.row(2, 4)
        self.assertEqual(train.sell(2, 4), 1)

    def test_tickets_rise_by_number_and_not_by_sign(self):
        train = Train(12, 3)
        for _ in range(12):
            train.sell(0, 2)
        train.leave(2, 1)
        train.reseat(1)
        train.back(5)
        self.assertEqual(train.tickets(), [0, 1, 2, 3, 4, 6, 7, 8, 9, 10, 11])

    def test_three_hundred_tickets(self):
        train = Train(60, 60)
        stretches = [(5 * k, 5 * k + 5) for k in range(5) for _ in range(60)]
        self.assertEqual([train.sell(*stretch) for stretch in stretches], list(range(300)))
        self.assertEqual(train.tickets(), list(range(300)))
        self.assertEqual(train.parts(299), [(59, 20, 25)])
        self.assertEqual(train.parts(60), [(0, 5, 10)])
        self.assertEqual(train.blocked(0, 59), 0)
        self.assertIsNone(train.blocked(25, 59))


class Parts(unittest.TestCase):
    def test_the_parts_are_a_list_of_tuples(self):
        train = Train(2, 3)
        train.sell(0, 2)
        for parts in (train.parts(0), train.row(0, 1), train.reseat(0), train.leave(0, 1), train.back(0)):
            self.assertIs(type(parts), list)
            self.assertEqual([type(part) for part in parts], [tuple])
        self.assertIs(type(train.tickets()), list)

    def test_the_parts_follow_each_other_and_hold_their_seats(self):
        train, _ = held(3, 8, (0, 2, 7), (1, 0, 2), (1, 4, 7), (2, 0, 4))
        ticket = train.sell(0, 7)
        self.assertEqual(train.parts(ticket), [(0, 0, 2), (1, 2, 4), (2, 4, 7)])
        for seat, begin, end in train.parts(ticket):
            for leg in range(7):
                self.assertEqual(train.holder(seat, leg) == ticket, begin <= leg < end)

    def test_a_stretch_of_one_leg(self):
        train = Train(2, 4)
        for begin in range(3):
            ticket = train.sell(begin, begin + 1)
            self.assertEqual(train.parts(ticket), [(0, begin, begin + 1)])

    def test_a_stretch_of_all_legs(self):
        train = Train(2, 60)
        self.assertEqual(train.parts(train.sell(0, 59)), [(0, 0, 59)])
        self.assertEqual(train.parts(train.sell(0, 59)), [(1, 0, 59)])

    def test_the_parts_of_other_tickets_stay(self):
        train = Train(2, 4)
        train.sell(0, 2)
        train.sell(1, 3)
        self.assertEqual(train.parts(0), [(0, 0, 2)])
        self.assertEqual(train.parts(1), [(1, 1, 3)])


class Finding(unittest.TestCase):
    def test_the_least_seat_that_is_free_all_the_way(self):
        train, _ = held(4, 6, (0, 2, 3), (1, 4, 5))
        self.assertEqual(train.row(0, 5), [(2, 0, 5)])
        self.assertEqual(train.row(0, 4), [(1, 0, 4)])
        self.assertEqual(train.row(0, 2), [(0, 0, 2)])
        self.assertEqual(train.row(3, 5), [(0, 3, 5)])

    def test_what_lies_behind_the_end_does_not_count(self):
        train, _ = held(3, 8, (0, 3, 7), (1, 5, 7))
        self.assertEqual(train.row(0, 3), [(0, 0, 3)])
        self.assertEqual(train.row(1, 2), [(0, 1, 2)])
        self.assertEqual(train.row(0, 4), [(1, 0, 4)])
        self.assertEqual(train.row(0, 6), [(2, 0, 6)])

    def test_what_lies_ahead_of_the_begin_does_not_count(self):
        train, _ = held(2, 6, (0, 0, 2))
        self.assertEqual(train.row(2, 5), [(0, 2, 5)])
        self.assertEqual(train.row(1, 5), [(1, 1, 5)])

    def test_the_seat_that_leads_farthest_ahead_of_a_lesser_one(self):
        train, _ = held(3, 7, (0, 1, 6), (1, 4, 6), (2, 0, 4))
        self.assertEqual(train.row(0, 6), [(1, 0, 4), (2, 4, 6)])

    def test_the_least_of_several_that_lead_equally_far(self):
        train, _ = held(5, 7, (0, 0, 1), (1, 3, 4), (2, 3, 5), (3, 2, 4), (4, 3, 6))
        self.assertEqual(train.row(0, 6), [(1, 0, 3), (0, 3, 6)])
        self.assertEqual(train.row(0, 3), [(1, 0, 3)])
        self.assertEqual(train.row(1, 6), [(0, 1, 6)])

    def test_one_may_come_to_a_seat_twice(self):
        train, _ = held(2, 7, (0, 2, 4), (1, 0, 2), (1, 4, 6))
        self.assertEqual(train.row(0, 6), [(0, 0, 2), (1, 2, 4), (0, 4, 6)])

    def test_a_part_does_not_go_beyond_the_end(self):
        train, _ = held(2, 8, (0, 2, 7), (1, 0, 1))
        self.assertEqual(train.row(0, 4), [(0, 0, 2), (1, 2, 4)])
        ticket = train.sell(0, 4)
        self.assertEqual(train.parts(ticket), [(0, 0, 2), (1, 2, 4)])
        self.assertIsNone(train.holder(1, 4))

    def test_a_change_on_each_leg(self):
        train, _ = held(2, 6, (0, 1, 2), (0, 3, 4), (1, 0, 1), (1, 2, 3), (1, 4, 5))
        self.assertEqual(
            train.row(0, 5), [(0, 0, 1), (1, 1, 2), (0, 2, 3), (1, 3, 4), (0, 4, 5)]
        )

    def test_a_row_is_what_a_sale_gives_and_sells_nothing(self):
        train, _ = held(3, 8, (0, 1, 6), (1, 4, 6), (2, 0, 4))
        before = told(train)
        row = train.row(0, 7)
        self.assertEqual(told(train), before)
        self.assertEqual(train.parts(train.sell(0, 7)), row)

    def test_sixty_seats(self):
        train = Train(60, 4)
        for _ in range(59):
            train.sell(0, 3)
        self.assertEqual(train.parts(train.sell(0, 3)), [(59, 0, 3)])


class Blocked(unittest.TestCase):
    def test_nothing_blocks_where_each_leg_has_a_free_seat(self):
        train, _ = held(2, 5, (0, 0, 2), (1, 2, 4))
        self.assertIsNone(train.blocked(0, 4))
        self.assertEqual(train.row(0, 4), [(1, 0, 2), (0, 2, 4)])

    def test_the_first_full_leg_blocks(self):
        train, _ = held(2, 8, (0, 2, 3), (1, 2, 3), (0, 4, 6), (1, 5, 7))
        self.assertEqual(train.blocked(0, 7), 2)
        self.assertEqual(train.blocked(2, 3), 2)
        self.assertEqual(train.blocked(3, 7), 5)
        self.assertEqual(train.blocked(4, 6), 5)

    def test_full_legs_beside_the_stretch_do_not_block_it(self):
        train, _ = held(1, 6, (0, 1, 2), (0, 4, 5))
        self.assertIsNone(train.blocked(2, 4))
        self.assertIsNone(train.blocked(0, 1))
        self.assertEqual(train.row(2, 4), [(0, 2, 4)])

    def test_the_first_leg_blocks(self):
        train, _ = held(1, 4, (0, 0, 1))
        self.assertEqual(train.blocked(0, 3), 0)
        self.assertEqual(train.blocked(0, 1), 0)
        self.assertIs(refusal(train.sell, 0, 3), Full)
        self.assertIs(refusal(train.row, 0, 1), Full)

    def test_the_last_leg_blocks(self):
        train, _ = held(2, 60, (0, 58, 59), (1, 58, 59))
        self.assertEqual(train.blocked(0, 59), 58)
        self.assertEqual(train.blocked(58, 59), 58)
        self.assertIsNone(train.blocked(0, 58))
        self.assertIs(refusal(train.sell, 0, 59), Full)

    def test_nothing_is_sold_where_a_leg_blocks(self):
        train, tickets = held(2, 6, (0, 3, 4), (1, 3, 4), (0, 0, 1))
        before = told(train)
        for stretch in [(0, 5), (3, 4), (0, 4), (3, 5), (2, 5)]:
            self.assertIs(refusal(train.sell, *stretch), Full)
            self.assertIs(refusal(train.row, *stretch), Full)
        self.assertEqual(told(train), before)
        train.back(tickets[0])
        self.assertEqual(train.row(0, 5), [(1, 0, 3), (0, 3, 5)])

    def test_sixty_seats_are_needed_to_block_sixty(self):
        train = Train(60, 2)
        for _ in range(59):
            train.sell(0, 1)
        self.assertIsNone(train.blocked(0, 1))
        train.sell(0, 1)
        self.assertEqual(train.blocked(0, 1), 0)
        self.assertIs(refusal(train.sell, 0, 1), Full)

    def test_a_blocked_stretch_is_sold_once_a_ticket_is_given_back(self):
        train = Train(1, 4)
        train.sell(1, 2)
        self.assertEqual(train.blocked(0, 3), 1)
        train.back(0)
        self.assertIsNone(train.blocked(0, 3))
        self.assertEqual(train.parts(train.sell(0, 3)), [(0, 0, 3)])


if __name__ == "__main__":
    unittest.main()
