"""Point 12: texts that are refused, and which refusal goes first."""

import unittest

from legseats.errors import NoSeat, NoStretch, NoText, NoTicket, NoTrain, Shared
from legseats.notes import read, written
from tests.deeds import Numbers, answer
from tests.helping import refusal
from tests.slow_text import slow_read

GOOD = "train 3 9 5\nticket 0 0 0 4 1 4 8\nticket 3 1 0 4\nticket 4 2 2 6"


def of_one_ticket(row, size="3 9 5"):
    return f"train {size}\nticket {row}"


class Refused(unittest.TestCase):
    def refused(self, error, *texts):
        for text in texts:
            with self.subTest(text[:80]):
                self.assertIs(refusal(read, text), error)


class Good(Refused):
    def test_the_text_that_these_tests_spoil_is_read(self):
        self.refused(None, GOOD)
        self.assertEqual(written(read(GOOD)), GOOD)


class Forms(Refused):
    def test_an_empty_text(self):
        self.refused(NoText, "", "\n", "\n\n", " ", "\t", "\n" + GOOD)

    def test_an_empty_row(self):
        self.refused(NoText, GOOD.replace("\n", "\n\n"), GOOD.replace("\nticket 3", "\n\nticket 3"))

    def test_a_row_too_many_at_the_end(self):
        for more in ["\n", "\n\n", "\n ", "\nend", "\ntrain 3 9 5", "\n0", "\nticket", "\n" + GOOD]:
            self.refused(NoText, GOOD + more)
        self.refused(NoText, "train 3 9 5\n")

    def test_another_word(self):
        for word in ["Train", "TRAIN", "trains", "trai", "rain", "ticket", "train.", "0", "", "'train'"]:
            self.refused(NoText, GOOD.replace("train", word), GOOD.replace("train", word).split("\n")[0])
        for word in ["Ticket", "TICKET", "tickets", "ticke", "icket", "train", "seat", "1", "", "ticket:"]:
            self.refused(NoText, GOOD.replace("ticket 3", word + " 3"))
            self.refused(NoText, of_one_ticket("0 0 0 1").replace("ticket", word))

    def test_rows_in_another_order(self):
        rows = GOOD.split("\n")
        self.refused(NoText, "\n".join(rows[1:]), "\n".join(rows[1:] + rows[:1]))

    def test_another_blank(self):
        for blank in ["\t", ".", ",", "_", "-", "", " \t", "\t "]:
            for text in [GOOD, "train 3 9 5"]:
                at = text.index(" ")
                while at >= 0:
                    self.refused(NoText, text[:at] + blank + text[at + 1:])
                    at = text.find(" ", at + 1)

    def test_two_blanks(self):
        at = GOOD.index(" ")
        while at >= 0:
            self.refused(NoText, GOOD[:at] + " " + GOOD[at:], GOOD[:at] + "  " + GOOD[at:])
            at = GOOD.find(" ", at + 2)

    def test_a_blank_or_a_tab_at_a_rows_begin_or_end(self):
        rows = GOOD.split("\n")
        for at in range(len(rows)):
            for blank in [" ", "  ", "\t"]:
                for spoilt in [blank + rows[at], rows[at] + blank]:
                    self.refused(NoText, "\n".join([*rows[:at], spoilt, *rows[at + 1:]]))

    def test_other_line_ends(self):
        self.refused(NoText, GOOD.replace("\n", " "), GOOD.replace("\n", "\t"), GOOD.replace("\n", "\n\t"))
        self.refused(NoText, GOOD.replace("\n", ""), GOOD.replace("\n", "\\n"), GOOD.replace("\n", ";"))

    def test_numbers_that_lack_and_numbers_too_many(self):
        self.refused(NoText, "train", "train 3", "train 3 9", "train 3 9 5 0", "train 3 9 5 0 0 0 1", "train ")
        for row in ["", "0", "0 0", "0 0 0", "0 0 0 1 1", "0 0 0 1 1 1", "0 0 0 1 1 1 2 0", "0 0 0 1 1 1 2 0 2"]:
            self.refused(NoText, of_one_ticket(row))
        self.refused(NoText, "train 3 9 5\nticket")

    def test_no_part(self):
        self.refused(NoText, "train 3 9 5\nticket 0", GOOD.replace("ticket 3 1 0 4", "ticket 3"))

    def spoilt_numbers(self, number):
        """Each text in which one number of the good text is put into another form."""
        rows = [row.split(" ") for row in GOOD.split("\n")]
        for at, row in enumerate(rows):
            for k in range(1, len(row)):
                spoilt = [list(words) for words in rows]
                spoilt[at][k] = number(row[k])
                yield "\n".join(" ".join(words) for words in spoilt)

    def test_a_sign_or_a_nought_ahead(self):
        for ahead in ["-", "+", "0", "00", "-0", "~", "0x", "_", "'"]:
            self.refused(NoText, *self.spoilt_numbers(lambda figures: ahead + figures))

    def test_a_number_of_over_nine_figures(self):
        for figures in ["1000000000", "9999999999", "0000000000", "0000000001", "1" * 10, "7" * 5000, "0" * 5000]:
            self.refused(NoText, *self.spoilt_numbers(lambda _: figures))

    def test_no_number_at_all(self):
        for word in ["x", "", "1.0", "1e1", "1_0", "0b1", "one", "1-", "1,", "(1)", "None", "True", "\\", "'"]:
            self.refused(NoText, *self.spoilt_numbers(lambda _: word))

    def test_nine_figures_are_a_number(self):
        self.refused(None, "train 1 2 999999999", "train 1 2 100000000\nticket 99999999 0 0 1")
        self.refused(NoTrain, "train 999999999 2 0", "train 1 999999999 0")
        self.refused(NoTicket, of_one_ticket("999999999 0 0 1"))
        self.refused(NoSeat, of_one_ticket("0 999999999 0 1"))
        self.refused(NoStretch, of_one_ticket("0 0 0 999999999"), of_one_ticket("0 0 999999999 1"))

    def test_each_sign_alone_and_at_each_place(self):
        signs = [sign for sign in map(chr, [9, 10, *range(32, 127)]) if sign != chr(37)]
        text = "train 2 4 2\nticket 0 0 0 3\nticket 1 1 0 1"
        for sign in signs:
            self.refused(NoText, sign, sign * 3, "train" + sign, "train 2 4 2\n" + sign)
            for at in range(len(text) + 1):
                for spoilt in (text[:at] + sign + text[at:], text[:at] + sign + text[at + 1:]):
                    wanted = slow_read(spoilt)
                    given = refusal(read, spoilt)
                    self.assertEqual(given and given.__name__, wanted if isinstance(wanted, str) else None, spoilt)


class Sizes(Refused):
    def test_seats_and_stops_beyond_the_limits(self):
        for size in ["0 2", "0 60", "61 2", "61 60", "1 0", "1 1", "60 0", "60 1", "1 61", "60 61", "0 0", "61 61"]:
            self.refused(NoTrain, f"train {size} 0", f"train {size} 1", f"train {size} 1\nticket 0 0 0 1")

    def test_the_least_and_the_most(self):
        for size in ["1 2", "1 60", "60 2", "60 60"]:
            self.refused(None, f"train {size} 0", f"train {size} 1\nticket 0 0 0 1")


class Tickets(Refused):
    def test_a_number_that_is_not_above_the_one_ahead(self):
        text = "train 3 4 9\nticket 5 0 0 3\nticket {} 1 0 3"
        self.refused(NoTicket, *[text.format(number) for number in (0, 1, 4, 5)])
        self.refused(None, text.format(6), text.format(8))
        self.refused(NoTicket, "train 3 4 9\nticket 0 0 0 3\nticket 0 1 0 3")
        self.refused(NoTicket, "train 3 4 9\nticket 2 0 0 3\nticket 5 1 0 3\nticket 3 2 0 3")

    def test_numbers_rise_and_not_signs(self):
        self.refused(None, "train 3 4 11\nticket 9 0 0 3\nticket 10 1 0 3")
        self.refused(NoTicket, "train 3 4 11\nticket 10 0 0 3\nticket 9 1 0 3")

    def test_a_number_that_is_the_next_one_or_above_it(self):
        text = "train 3 4 7\nticket {} 0 0 3"
        self.refused(NoTicket, *[text.format(number) for number in (7, 8, 60, 999999999)])
        self.refused(None, text.format(6), text.format(0))
        self.refused(NoTicket, "train 3 4 0\nticket 0 0 0 3", "train 3 4 2\nticket 1 0 0 3\nticket 2 1 0 3")


class Parts(Refused):
    def test_a_seat_that_there_is_not(self):
        self.refused(NoSeat, *[of_one_ticket(f"0 {seat} 0 1") for seat in (3, 4, 60, 61, 999999999)])
        self.refused(NoSeat, of_one_ticket("0 0 0 1 3 1 2"), of_one_ticket("0 1 0 1", "1 2 1"))
        self.refused(None, of_one_ticket("0 2 0 1"), of_one_ticket("0 59 0 1", "60 2 1"))
        self.refused(NoSeat, of_one_ticket("0 60 0 1", "60 2 1"))

    def test_begin_and_end_that_are_no_stretch(self):
        for stretch in ["0 0", "4 4", "8 8", "1 0", "8 0", "5 4", "0 9", "7 9", "8 9", "9 9", "9 10", "9 8", "0 60"]:
            self.refused(NoStretch, of_one_ticket(f"0 0 {stretch}"))
        for stretch in ["0 1", "0 8", "7 8", "3 5"]:
            self.refused(None, of_one_ticket(f"0 0 {stretch}"))
        self.refused(NoStretch, of_one_ticket("0 0 2 4 1 4 4"), of_one_ticket("0 0 2 4 1 4 3"))
        self.refused(NoStretch, of_one_ticket("0 0 2 4 1 4 9"), of_one_ticket("0 0 2 4 1 4 8 0 8 9"))

    def test_a_part_that_does_not_begin_where_the_part_ahead_ends(self):
        for begin in (0, 2, 3, 5, 6):
            self.refused(NoStretch, of_one_ticket(f"0 0 2 4 1 {begin} 8"))
            self.refused(NoStretch, of_one_ticket(f"0 2 1 2 0 2 4 1 {begin} 8"))
        self.refused(None, of_one_ticket("0 0 2 4 1 4 8"), of_one_ticket("0 2 1 2 0 2 4 1 4 8"))

    def test_a_part_on_the_seat_of_the_part_ahead(self):
        self.refused(NoStretch, of_one_ticket("0 0 0 1 0 1 2"), of_one_ticket("0 1 0 1 2 1 2 2 2 3"))
        self.refused(None, of_one_ticket("0 0 0 1 1 1 2 0 2 3"))

    def test_the_part_ahead_is_one_of_the_same_ticket(self):
        self.refused(None, "train 3 9 5\nticket 0 0 0 4\nticket 1 0 4 6", "train 3 9 5\nticket 0 0 4 6\nticket 1 1 0 3")

    def test_a_leg_that_an_earlier_ticket_holds(self):
        text = "train 2 9 5\nticket 0 0 3 6\nticket 1 {}"
        for parts in ["0 3 6", "0 0 8", "0 4 5", "0 0 4", "0 5 8", "0 3 4", "0 5 6", "1 0 3 0 3 4", "1 0 5 0 5 8"]:
            self.refused(Shared, text.format(parts))
        for parts in ["0 0 3", "0 6 8", "1 0 8", "0 0 3 1 3 6 0 6 8"]:
            self.refused(None, text.format(parts))

    def test_a_leg_that_a_later_part_of_an_earlier_ticket_holds(self):
        text = "train 3 9 5\nticket 0 0 0 3 1 3 8\nticket 1 2 0 8\nticket 2 {}"
        self.refused(Shared, text.format("1 7 8"), text.format("1 0 3 0 3 5 1 5 6"), text.format("2 0 1"))
        self.refused(None, text.format("1 0 3"), text.format("1 0 3 0 3 8"))


class First(Refused):
    def test_no_text_goes_ahead_of_all_else(self):
        for text in [
            "train 0 2 0", "train 1 61 0", "train 3 9 0\nticket 0 0 0 1", "train 3 9 5\nticket 0 3 0 1",
            "train 3 9 5\nticket 0 0 1 1", "train 3 9 5\nticket 0 0 0 3\nticket 1 0 0 3",
        ]:
            self.assertNotIn(refusal(read, text), (None, NoText))
            for more in ["\n", "\nticket", "\nticket 4 0 0 01", "\nticket 4", "\ntrain 3 9 5", "\nx"]:
                self.refused(NoText, text + more)
        self.refused(NoText, "train 0 0 -1", "train 61 2 00", "train 0 2 1000000000")
        self.refused(NoText, of_one_ticket("9 9 9 9 9 9"), of_one_ticket("0 9 0 1 0"), of_one_ticket("0 9 0 1 0 1 02"))

    def test_no_train_goes_ahead_of_what_the_tickets_refuse(self):
        for size in ["0 9 5", "61 9 5", "3 1 5", "3 61 5", "0 0 0"]:
            for row in ["5 0 0 1", "0 61 0 1", "0 0 1 1", "0 0 0 61", "0 0 0 1\nticket 1 0 0 1"]:
                self.refused(NoTrain, of_one_ticket(row, size))

    def test_no_ticket_goes_ahead_of_what_its_parts_refuse(self):
        text = "train 3 9 5\nticket 2 0 3 6\nticket {} {}"
        for ticket in (0, 2, 5, 6):
            for parts in ["3 0 1", "0 1 1", "0 0 9", "0 3 4", "1 0 1 1 1 2", "1 0 1 2 2 3"]:
                self.refused(NoTicket, text.format(ticket, parts))

    def test_no_seat_then_no_stretch_then_shared(self):
        text = "train 3 9 5\nticket 2 0 3 6\nticket 3 {}"
        self.refused(NoSeat, text.format("3 4 4"), text.format("3 6 3"), text.format("3 0 9"), text.format("9 9 9"))
        self.refused(NoSeat, text.format("1 0 2 3 3 4"), text.format("1 0 2 3 2 2"))
        self.refused(NoStretch, text.format("0 3 3"), text.format("0 4 9"), text.format("0 5 4"))
        self.refused(NoStretch, text.format("1 0 4 0 5 6"), text.format("1 0 4 0 3 6"), text.format("1 0 4 1 5 6"))

    def test_an_earlier_part_goes_ahead_of_a_later_one(self):
        text = "train 3 9 5\nticket 2 0 3 6\nticket 3 {}"
        self.refused(Shared, text.format("0 3 4 3 4 5"), text.format("0 3 4 1 4 4"), text.format("0 3 4 0 4 5"))
        self.refused(Shared, text.format("1 2 4 0 4 6 9 9 9"))
        self.refused(NoStretch, text.format("1 3 3 3 3 4"), text.format("1 3 2 0 3 4"))
        self.refused(NoStretch, text.format("1 0 1 1 1 2 3 2 3"))
        self.refused(NoSeat, text.format("3 3 4 0 4 4"), text.format("3 0 3 0 3 4"))

    def test_an_earlier_ticket_goes_ahead_of_a_later_one(self):
        later = {NoTicket: "1 1 0 1", NoSeat: "4 3 0 1", NoStretch: "4 1 1 1", Shared: "4 0 0 4"}
        earlier = {NoTicket: "5 1 0 1", NoSeat: "3 3 0 1", NoStretch: "3 1 1 1", Shared: "3 0 0 4"}
        for error, row in earlier.items():
            for other, last in later.items():
                text = f"train 3 9 5\nticket 2 0 3 6\nticket {row}\nticket {last}"
                self.refused(error, text)
                self.refused(other, text.replace(f"ticket {row}\n", ""))

    def test_a_leg_is_shared_where_the_later_of_two_tickets_stands(self):
        self.refused(NoSeat, "train 1 3 5\nticket 0 0 0 2\nticket 1 1 0 1\nticket 2 0 0 1")
        self.refused(Shared, "train 1 3 5\nticket 0 0 0 2\nticket 1 0 0 1\nticket 2 1 0 1")


def changed(numbers, text):
    """The text with one thing in it changed: a sign, a number, or a row."""
    chosen = numbers.below(8)
    if chosen == 0:
        at = numbers.below(len(text) + 1)
        sign = "0123456789 \n\t-+x"[numbers.below(16)]
        return text[:at] + sign + text[at + numbers.below(2):]
    rows = [row.split(" ") for row in text.split("\n")]
    at = numbers.below(len(rows))
    if chosen == 1:
        other = numbers.below(len(rows))
        rows[at], rows[other] = rows[other], rows[at]
    elif chosen == 2:
        del rows[at][1:2]
    elif chosen == 3 and len(rows) > 1:
        del rows[1 + numbers.below(len(rows) - 1)]
    elif len(rows[at]) > 1:
        k = 1 + numbers.below(len(rows[at]) - 1)
        rows[at][k] = str(numbers.below(7)) if chosen < 7 else str(numbers.below(70))
    return "\n".join(" ".join(row) for row in rows)


def some_text(numbers):
    """A text of the form, of a small train whose tickets may be refused."""
    seats, stops = 1 + numbers.below(5), 2 + numbers.below(9)
    rows = [f"train {seats} {stops} {6 + numbers.below(3)}"]
    for ticket in range(numbers.below(7)):
        stop = numbers.below(stops)
        parts = []
        for _ in range(1 + numbers.below(3)):
            end = stop + 1 + numbers.below(3)
            parts.append(f"{numbers.below(seats)} {stop} {end}")
            stop = end
        rows.append(f"ticket {ticket} " + " ".join(parts))
    return "\n".join(rows)


class BesideTheWords(unittest.TestCase):
    def check(self, text):
        wanted = slow_read(text)
        given = answer(read, text)
        if isinstance(wanted, str):
            self.assertEqual(given, wanted, text)
            return wanted
        self.assertNotIsInstance(given, str, text)
        self.assertEqual(given.size(), wanted[:2])
        self.assertEqual({ticket: given.parts(ticket) for ticket in given.tickets()}, wanted[3])
        self.assertEqual(written(given), text)
        return "read"

    def test_many_texts(self):
        numbers = Numbers(5)
        found = {}
        for _ in range(3000):
            text = some_text(numbers)
            for _ in range(4):
                word = self.check(text)
                found[word] = found.get(word, 0) + 1
                text = changed(numbers, text)
        for word in ["read", "NoText", "NoTrain", "NoTicket", "NoSeat", "NoStretch", "Shared"]:
            self.assertGreater(found.get(word, 0), 100, found)


if __name__ == "__main__":
    unittest.main()
