"""Point 1: lists that are handed out are the asker's own."""

import unittest

from legseats.trains import Train
from tests.helping import told


def changing():
    """A train whose ticket 3 changes from seat 0 to seat 1 at stop 3."""
    train = Train(2, 8)
    train.sell(0, 3)
    train.sell(0, 3)
    train.back(0)
    train.sell(3, 5)
    train.sell(0, 7)
    return train


def spoil(handed):
    """Change a list in every way in which one can."""
    handed.append((0, 0, 1))
    handed[0] = "other"
    handed.reverse()
    handed.extend([1, 2, 3])
    del handed[1:]
    handed.clear()


HANDED = {
    "back": lambda train: train.back(3),
    "leave": lambda train: train.leave(3, 2),
    "reseat": lambda train: train.reseat(3),
    "parts": lambda train: train.parts(3),
    "tickets": lambda train: train.tickets(),
    "row": lambda train: train.row(5, 7),
}


def later_deeds(train):
    """Deeds that change about all that the train tells."""
    train.sell(5, 7)
    for ticket in train.tickets():
        stop = train.parts(ticket)[-1][2] - 1
        if stop > train.parts(ticket)[0][1]:
            train.leave(ticket, stop)
        train.reseat(ticket)
    train.back(train.tickets()[0])
    train.sell(0, 1)
    for ticket in train.tickets():
        train.back(ticket)
    train.sell(0, 7)


class Lists(unittest.TestCase):
    def test_a_change_of_a_list_changes_nothing_that_is_told_later(self):
        for name, ask in HANDED.items():
            with self.subTest(name):
                train, other = changing(), changing()
                spoil(ask(train))
                ask(other)
                self.assertEqual(told(train), told(other))
                for each in (train, other):
                    each.sell(5, 7)
                    each.reseat(2)
                self.assertEqual(told(train), told(other))

    def test_later_deeds_change_no_list_handed_out_before(self):
        for name, ask in HANDED.items():
            with self.subTest(name):
                train = changing()
                handed = ask(train)
                copy = list(handed)
                self.assertNotEqual(copy, [])
                later_deeds(train)
                self.assertEqual(handed, copy)

    def test_each_deed_alone_changes_no_list_handed_out_before(self):
        deeds = {
            "sell": lambda train: train.sell(5, 7),
            "back": lambda train: train.back(3),
            "leave": lambda train: train.leave(3, 1),
            "reseat": lambda train: train.reseat(3),
        }
        for name, ask in HANDED.items():
            for deed, do in deeds.items():
                if name == "back" and deed != "sell":
                    continue
                with self.subTest((name, deed)):
                    train = changing()
                    handed = ask(train)
                    copy = list(handed)
                    do(train)
                    self.assertEqual(handed, copy)

    def test_a_list_is_new_each_time(self):
        for name in ("parts", "tickets", "row", "reseat"):
            with self.subTest(name):
                train = changing()
                ask = HANDED[name]
                first, second = ask(train), ask(train)
                self.assertEqual(first, second)
                self.assertIsNot(first, second)
                first.append("more")
                self.assertEqual(ask(train), second)

    def test_a_changed_row_does_not_change_what_is_sold(self):
        train = Train(2, 4)
        row = train.row(0, 3)
        row[0] = (1, 0, 3)
        row.append((0, 0, 1))
        self.assertEqual(train.row(0, 3), [(0, 0, 3)])
        self.assertEqual(train.parts(train.sell(0, 3)), [(0, 0, 3)])

    def test_reseated_parts_are_not_those_that_the_train_keeps(self):
        train = Train(2, 5)
        train.sell(0, 4)
        train.reseat(0).append((1, 0, 4))
        self.assertEqual(train.parts(0), [(0, 0, 4)])
        self.assertEqual(train.back(0), [(0, 0, 4)])
        self.assertEqual(train.load(0), 0)

    def test_the_train_of_these_tests_is_as_it_is_told(self):
        train = changing()
        self.assertEqual(train.tickets(), [1, 2, 3])
        self.assertEqual(train.parts(3), [(0, 0, 3), (1, 3, 7)])


class Asking(unittest.TestCase):
    def test_asking_changes_nothing(self):
        train = changing()
        before = told(train)
        self.assertEqual(told(train), before)
        self.assertEqual(train.sell(5, 6), 4)

    def test_trains_treated_alike_tell_alike(self):
        one, other = changing(), changing()
        later_deeds(one)
        later_deeds(other)
        self.assertEqual(told(one), told(other))
        self.assertEqual(one.sell(6, 7), other.sell(6, 7))


if __name__ == "__main__":
    unittest.main()
