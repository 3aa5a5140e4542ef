"""Point 11: trains written as texts, and read from them again."""

import unittest

from legseats.notes import read, written
from legseats.trains import Train
from tests.deeds import Numbers, answer, deed
from tests.helping import held, told


def all_told(train):
    """All that a train tells, and the number that it says it sells next."""
    return told(train), written(train).split("\n")[0].split(" ")[3]


def changing():
    """Ticket 3 changes from seat 0 to seat 1; tickets 0 and 4 were given back."""
    train = Train(2, 8)
    for stretch in [(0, 3), (0, 3), (3, 5)]:
        train.sell(*stretch)
    train.back(0)
    train.sell(0, 7)
    train.back(train.sell(5, 7))
    return train


CHANGING = "train 2 8 5\nticket 1 1 0 3\nticket 2 0 3 5\nticket 3 0 0 3 1 3 7"


class Written(unittest.TestCase):
    def test_trains_without_tickets(self):
        for seats, stops in [(1, 2), (1, 60), (60, 2), (60, 60), (10, 20)]:
            self.assertEqual(written(Train(seats, stops)), f"train {seats} {stops} 0")

    def test_the_number_sold_next_is_told_without_tickets_too(self):
        train = Train(3, 4)
        for _ in range(11):
            train.back(train.sell(0, 3))
        self.assertEqual(written(train), "train 3 4 11")

    def test_tickets_of_one_part(self):
        train = Train(2, 5)
        for stretch in [(0, 2), (0, 3), (2, 4)]:
            train.sell(*stretch)
        self.assertEqual(written(train), "train 2 5 3\nticket 0 0 0 2\nticket 1 1 0 3\nticket 2 0 2 4")

    def test_tickets_of_several_parts_and_numbers_given_back(self):
        self.assertEqual(written(changing()), CHANGING)

    def test_tickets_rise_by_number_and_not_by_sign(self):
        train = Train(12, 3)
        for _ in range(12):
            train.sell(0, 2)
        train.back(3)
        train.reseat(2)
        rows = [f"ticket {k} {k} 0 2" for k in (0, 1, 2, 4, 5, 6, 7, 8, 9, 10, 11)]
        self.assertEqual(written(train), "\n".join(["train 12 3 12", *rows]))

    def test_tickets_left_and_seated_anew(self):
        train = changing()
        train.leave(3, 5)
        self.assertEqual(written(train), CHANGING.replace("1 3 7", "1 3 5"))
        train.back(1)
        train.reseat(3)
        self.assertEqual(written(train), "train 2 8 5\nticket 2 0 3 5\nticket 3 1 0 5")

    def test_the_greatest_train(self):
        train = Train(60, 60)
        for _ in range(60):
            train.sell(0, 59)
        rows = [f"ticket {k} {k} 0 59" for k in range(60)]
        self.assertEqual(written(train), "\n".join(["train 60 60 60", *rows]))

    def test_a_written_train_stays(self):
        train = changing()
        before = told(train)
        self.assertEqual(written(train), written(train))
        self.assertEqual(told(train), before)
        self.assertEqual(train.sell(5, 6), 5)

    def test_a_text_is_a_string(self):
        self.assertIs(type(written(changing())), str)


class ReadAgain(unittest.TestCase):
    def check(self, train):
        text = written(train)
        before = told(train)
        again = read(text)
        self.assertIs(type(again), Train)
        self.assertIsNot(again, train)
        self.assertEqual(told(again), before)
        self.assertEqual(told(train), before)
        self.assertEqual(written(again), text)
        self.check_next(train, read(text))
        return again

    def check_next(self, train, again):
        """Both sell the same next; what was sold is given back, but its number is gone."""
        for begin in range(train.size()[1] - 1):
            number = answer(train.sell, begin, begin + 1)
            self.assertEqual(answer(again.sell, begin, begin + 1), number)
            if number != "Full":
                self.assertEqual(again.parts(number), train.parts(number))
                train.back(number)
                return

    def test_trains_without_tickets(self):
        for size in [(1, 2), (1, 60), (60, 2), (60, 60), (7, 9)]:
            self.check(Train(*size))

    def test_tickets_of_one_part_and_of_several(self):
        self.check(changing())
        train, _ = held(3, 10, (0, 3, 9), (1, 0, 3), (1, 6, 9), (2, 0, 6))
        self.assertEqual(len(train.parts(train.sell(0, 9))), 3)
        self.check(train)

    def test_one_comes_to_a_seat_twice(self):
        train, _ = held(2, 7, (0, 2, 4), (1, 0, 2), (1, 4, 6))
        ticket = train.sell(0, 6)
        self.assertEqual(self.check(train).parts(ticket), [(0, 0, 2), (1, 2, 4), (0, 4, 6)])

    def test_numbers_given_back_ahead_between_and_behind_others(self):
        for gone in [[0], [2], [4], [0, 1, 2], [3, 4], [0, 2, 4], [0, 1, 2, 3, 4]]:
            train = Train(3, 5)
            for stretch in [(0, 2), (0, 4), (2, 4), (1, 3), (3, 4)]:
                train.sell(*stretch)
            for ticket in gone:
                train.back(ticket)
            self.assertEqual(self.check(train).sell(0, 1), 5)

    def test_all_legs_are_held(self):
        for seats, stops in [(1, 2), (1, 60), (60, 2), (4, 6)]:
            train = Train(seats, stops)
            for _ in range(seats):
                train.sell(0, stops - 1)
            self.assertEqual(self.check(train).blocked(0, stops - 1), 0)

    def test_the_greatest_train_with_three_hundred_tickets(self):
        train = Train(60, 60)
        for ticket in range(300):
            begin = ticket // 60 * 11
            self.assertEqual(train.sell(begin, begin + 11), ticket)
        again = read(written(train))
        self.assertEqual(told(again), told(train))
        self.assertEqual(written(again), written(train))

    def test_a_ticket_that_changes_on_each_of_fifty_nine_legs(self):
        rows = [f"ticket {leg} {leg % 2} {leg} {leg + 1}" for leg in range(59)]
        parts = " ".join(f"{(leg + 1) % 2} {leg} {leg + 1}" for leg in range(59))
        text = "\n".join(["train 2 60 60", *rows, f"ticket 59 {parts}"])
        train = read(text)
        self.assertEqual(len(train.parts(59)), 59)
        self.assertEqual([train.load(leg) for leg in range(59)], [2] * 59)
        self.assertEqual(written(train), text)
        self.check(train)

    def test_many_deeds(self):
        for seats, stops, many in [(1, 2, 20), (1, 8, 40), (2, 6, 60), (4, 9, 60), (6, 20, 30)]:
            train, numbers = Train(seats, stops), Numbers(seats * 17 + stops)
            for _ in range(many):
                name, args = deed(numbers, train)
                answer(getattr(train, name), *args)
                self.check(train)


class Read(unittest.TestCase):
    def test_what_a_text_tells(self):
        train = read(CHANGING)
        self.assertEqual(train.size(), (2, 8))
        self.assertEqual(train.tickets(), [1, 2, 3])
        self.assertEqual(train.parts(1), [(1, 0, 3)])
        self.assertEqual(train.parts(3), [(0, 0, 3), (1, 3, 7)])
        self.assertEqual([train.holder(0, leg) for leg in range(7)], [3, 3, 3, 2, 2, None, None])
        self.assertEqual([train.load(leg) for leg in range(7)], [2, 2, 2, 2, 2, 1, 1])
        self.assertEqual(train.farthest(0, 5), 7)
        self.assertEqual(train.blocked(4, 7), 4)
        self.assertEqual(train.row(5, 6), [(0, 5, 6)])
        self.assertEqual(told(train), told(changing()))
        self.assertEqual(train.sell(5, 7), 5)

    def test_parts_are_lists_of_tuples_and_the_askers_own(self):
        train = read(CHANGING)
        parts = train.parts(3)
        self.assertIs(type(parts), list)
        self.assertEqual([type(part) for part in parts], [tuple, tuple])
        parts.clear()
        self.assertEqual(train.parts(3), [(0, 0, 3), (1, 3, 7)])

    def test_a_next_number_far_above_the_last_ticket(self):
        for next_number in (1, 2, 7, 60, 299, 999999998, 999999999):
            text = f"train 1 3 {next_number}\nticket 0 0 0 1"
            self.assertEqual(written(read(text)), text)
            train = read(text)
            self.assertEqual(train.tickets(), [0])
            self.assertEqual(train.sell(1, 2), next_number)
            self.assertEqual(train.tickets(), [0, next_number])

    def test_a_next_number_without_tickets(self):
        for next_number in (0, 1, 9, 10, 300, 999999999):
            train = read(f"train 2 3 {next_number}")
            self.assertEqual(train.tickets(), [])
            self.assertEqual(train.sell(0, 2), next_number)

    def test_the_greatest_ticket_number(self):
        text = "train 1 2 999999999\nticket 999999998 0 0 1"
        self.assertEqual(read(text).tickets(), [999999998])
        self.assertEqual(written(read(text)), text)

    def test_parts_that_no_sale_would_have_found(self):
        text = "train 3 6 9\nticket 4 2 1 2 0 2 4 2 4 5\nticket 8 1 0 5"
        train = read(text)
        self.assertEqual(train.parts(4), [(2, 1, 2), (0, 2, 4), (2, 4, 5)])
        self.assertEqual(written(train), text)
        self.assertEqual(train.leave(4, 3), [(0, 3, 4), (2, 4, 5)])
        self.assertEqual(train.reseat(4), [(0, 1, 3)])
        self.assertEqual(train.back(8), [(1, 0, 5)])
        self.assertEqual(written(train), "train 3 6 9\nticket 4 0 1 3")

    def test_tickets_that_only_touch_share_nothing(self):
        text = "train 1 4 3\nticket 0 0 1 2\nticket 1 0 0 1\nticket 2 0 2 3"
        self.assertEqual(written(read(text)), text)


class Apart(unittest.TestCase):
    def test_the_deeds_on_one_train_do_not_reach_the_other(self):
        train = changing()
        again = read(written(train))
        before = all_told(again)
        train.sell(5, 7)
        train.leave(3, 1)
        train.back(1)
        train.reseat(2)
        self.assertEqual(all_told(again), before)
        before = all_told(train)
        again.back(3)
        again.sell(0, 3)
        again.leave(2, 4)
        self.assertEqual(all_told(train), before)

    def test_two_trains_that_are_read_of_one_text(self):
        one, other = read(CHANGING), read(CHANGING)
        before = all_told(other)
        one.back(3)
        one.back(2)
        one.sell(1, 7)
        self.assertEqual(all_told(other), before)

    def test_both_go_on_alike_where_the_same_is_done(self):
        for seats, stops in [(1, 6), (2, 7), (3, 9), (5, 12)]:
            train, numbers = Train(seats, stops), Numbers(seats * 13)
            for _ in range(30):
                name, args = deed(numbers, train)
                answer(getattr(train, name), *args)
            again = read(written(train))
            for _ in range(60):
                name, args = deed(numbers, train)
                given = answer(getattr(train, name), *args)
                self.assertEqual(answer(getattr(again, name), *args), given)
                self.assertEqual(all_told(again), all_told(train))


if __name__ == "__main__":
    unittest.main()
