"""Point 10: all seated anew, without a change, on as few seats as can be."""

import unittest

from legseats.packing import packed
from legseats.trains import Train
from tests.deeds import Numbers, answer, deed
from tests.helping import told


def sold(seats, stops, *stretches):
    train = Train(seats, stops)
    for stretch in stretches:
        train.sell(*stretch)
    return train


def most_held(train):
    """The number of seats that are held on the leg on which the most are."""
    return max(train.load(leg) for leg in range(train.size()[1] - 1))


def crossing():
    """Who sits by the order of sale needs three seats here: tickets 0 to 3 are a chain."""
    return sold(2, 8, (0, 2), (5, 7), (1, 4), (3, 6))


class Packings(unittest.TestCase):
    def check(self, train):
        before = told(train)
        packing = packed(train)
        self.assertEqual(told(train), before)
        self.assertIs(type(packing), list)
        for pair in packing:
            self.assertIs(type(pair), tuple)
            self.assertEqual([type(number) for number in pair], [int, int])
        self.assertEqual([ticket for ticket, _ in packing], train.tickets())
        self.check_seats(train, packing)
        return packing

    def check_seats(self, train, packing):
        most = most_held(train)
        taken = set()
        for ticket, seat in packing:
            self.assertIn(seat, range(most))
            parts = train.parts(ticket)
            for leg in range(parts[0][1], parts[-1][2]):
                self.assertNotIn((seat, leg), taken)
                taken.add((seat, leg))

    def test_a_train_without_tickets(self):
        for size in [(1, 2), (60, 60), (3, 5)]:
            self.assertEqual(self.check(Train(*size)), [])

    def test_a_train_whose_tickets_were_all_given_back(self):
        train = sold(2, 4, (0, 3), (1, 2))
        train.back(0)
        train.back(1)
        self.assertEqual(self.check(train), [])

    def test_one_ticket(self):
        for size, stretch in [((1, 2), (0, 1)), ((4, 9), (3, 7)), ((60, 60), (0, 59)), ((2, 5), (3, 4))]:
            self.assertEqual(self.check(sold(*size, stretch)), [(0, 0)])

    def test_one_ticket_on_a_greater_seat(self):
        train = sold(3, 5, (0, 4), (0, 4), (1, 3))
        train.back(0)
        train.back(1)
        self.assertEqual(train.parts(2), [(2, 1, 3)])
        self.assertEqual(self.check(train), [(2, 0)])

    def test_one_ticket_that_changes_seats(self):
        train = sold(2, 7, (0, 3), (0, 3), (3, 6))
        train.back(0)
        train.sell(0, 6)
        self.assertEqual(train.parts(3), [(0, 0, 3), (1, 3, 6)])
        train.back(1)
        train.back(2)
        self.assertEqual(self.check(train), [(3, 0)])

    def test_tickets_that_change_seats(self):
        train = crossing()
        self.assertEqual(len(train.parts(3)), 2)
        packing = dict(self.check(train))
        self.assertEqual(packing[0], packing[3])
        self.assertEqual(packing[1], packing[2])
        self.assertNotEqual(packing[0], packing[1])

    def test_a_ticket_that_changes_on_each_leg(self):
        train = Train(2, 6)
        fillers = [train.sell(leg, leg + 1) for leg in range(5)]
        others = [train.sell(leg, leg + 1) for leg in range(5)]
        for leg in range(5):
            train.back((fillers, others)[leg % 2][leg])
        ticket = train.sell(0, 5)
        self.assertEqual(len(train.parts(ticket)), 5)
        packing = dict(self.check(train))
        self.assertEqual(len({packing[other] for other in train.tickets() if other != ticket}), 1)

    def test_tickets_with_one_stretch(self):
        for many in (1, 2, 5):
            packing = self.check(sold(5, 6, *[(1, 4)] * many))
            self.assertEqual(sorted(seat for _, seat in packing), list(range(many)))

    def test_stretches_that_only_touch_at_a_stop_have_one_seat(self):
        self.assertEqual(self.check(sold(1, 6, (0, 2), (2, 3), (3, 5))), [(0, 0), (1, 0), (2, 0)])
        self.assertEqual(self.check(sold(3, 6, (3, 5), (0, 2), (2, 3))), [(0, 0), (1, 0), (2, 0)])

    def test_touching_stretches_on_different_seats_are_brought_to_one(self):
        train = sold(2, 5, (0, 2), (0, 4))
        train.back(0)
        train.leave(1, 2)
        train.sell(2, 3)
        self.assertEqual([train.parts(1), train.parts(2)], [[(1, 0, 2)], [(0, 2, 3)]])
        self.assertEqual(self.check(train), [(1, 0), (2, 0)])

    def test_a_leg_in_common_at_one_end(self):
        packing = self.check(sold(2, 6, (0, 3), (2, 5)))
        self.assertEqual(sorted(seat for _, seat in packing), [0, 1])

    def test_a_stretch_within_another(self):
        packing = self.check(sold(2, 8, (0, 7), (2, 3), (4, 6)))
        self.assertEqual(len({seat for _, seat in packing}), 2)

    def test_full_trains(self):
        self.check(sold(1, 2, (0, 1)))
        self.check(sold(60, 2, *[(0, 1)] * 60))
        packing = self.check(sold(60, 60, *[(0, 59)] * 60))
        self.assertEqual(sorted(seat for _, seat in packing), list(range(60)))

    def test_a_full_train_of_short_stretches(self):
        train = sold(5, 60, *[(leg, leg + 1) for leg in range(59) for _ in range(5)])
        self.assertEqual([train.load(leg) for leg in range(59)], [5] * 59)
        self.assertEqual(len(self.check(train)), 295)

    def test_tickets_given_back_left_and_seated_anew_before(self):
        train = crossing()
        train.leave(3, 5)
        self.assertEqual(train.reseat(3), [(0, 3, 5)])
        self.check(train)
        train.back(2)
        self.assertEqual(self.check(train), [(0, 0), (1, 0), (3, 0)])
        train.sell(0, 7)
        self.check(train)

    def test_numbers_and_not_signs_rise(self):
        train = sold(12, 3, *[(0, 2)] * 12)
        train.back(3)
        self.assertEqual([ticket for ticket, _ in self.check(train)], [0, 1, 2, 4, 5, 6, 7, 8, 9, 10, 11])

    def test_all_tickets_sold_in_an_order_other_than_that_of_the_way(self):
        self.check(sold(4, 10, (6, 9), (3, 8), (5, 7), (0, 4), (2, 6), (0, 3), (1, 2), (7, 9)))

    def test_a_change_of_the_list_changes_nothing(self):
        train = crossing()
        before = told(train)
        first, second = packed(train), packed(train)
        self.assertIsNot(first, second)
        copy = list(second)
        self.assertEqual(len(copy), 4)
        first[0] = (7, 7)
        first.reverse()
        first.append("more")
        del first[1:]
        self.assertEqual(second, copy)
        self.assertEqual(told(train), before)
        self.check(train)

    def test_later_deeds_change_no_packing(self):
        train = crossing()
        packing = packed(train)
        copy = list(packing)
        train.back(1)
        train.leave(3, 4)
        train.sell(4, 7)
        packed(train)
        self.assertEqual(packing, copy)

    def test_a_packing_sells_nothing(self):
        train = crossing()
        packed(train)
        self.assertEqual(train.sell(0, 1), 4)

    def test_many_deeds(self):
        for seats, stops, many in [(1, 2, 20), (1, 9, 60), (2, 5, 80), (3, 9, 120), (5, 12, 120), (9, 30, 150)]:
            train, numbers = Train(seats, stops), Numbers(seats * 31 + stops)
            for _ in range(many):
                name, args = deed(numbers, train)
                answer(getattr(train, name), *args)
                self.check(train)

    def test_a_great_train(self):
        train, numbers = Train(60, 60), Numbers(7)
        for _ in range(300):
            begin = numbers.below(59)
            answer(train.sell, begin, begin + 1 + numbers.below(59 - begin))
        self.assertGreater(most_held(train), 50)
        self.check(train)


if __name__ == "__main__":
    unittest.main()
