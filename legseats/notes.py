"""Trains written as texts, and read from them."""

from legseats.errors import NoText, NoTicket
from legseats.trains import Train

MOST_FIGURES = 9


def written(train):
    """The text of a train."""
    seats, stops = train.size()
    rows = [_row("train", [seats, stops, train.next_number()])]
    for ticket in train.tickets():
        numbers = [ticket]
        for part in train.parts(ticket):
            numbers.extend(part)
        rows.append(_row("ticket", numbers))
    return "\n".join(rows)


def read(text):
    """The train that a text writes."""
    # All rows are split ahead of all else: NoText goes first, wherever it is due.
    rows = text.split("\n")
    seats, stops, next_number = _train_numbers(rows[0])
    tickets = [_ticket_numbers(row) for row in rows[1:]]
    train = Train(seats, stops)
    ahead = -1
    for numbers in tickets:
        ticket = numbers[0]
        if not ahead < ticket < next_number:
            raise NoTicket("the tickets' numbers rise, and are below the next one")
        train.enter(ticket, _parts(numbers))
        ahead = ticket
    train.set_next_number(next_number)
    return train


def _row(word, numbers):
    """A row of a text."""
    return " ".join([word] + [str(number) for number in numbers])


def _train_numbers(row):
    """The numbers of seats and stops, and the next ticket's number."""
    numbers = _numbers(row, "train")
    if len(numbers) != 3:
        raise NoText("a train has its seats, its stops and the next number")
    return numbers


def _ticket_numbers(row):
    """A ticket's number and the numbers of its parts, three for each."""
    numbers = _numbers(row, "ticket")
    if len(numbers) < 4 or len(numbers) % 3 != 1:
        raise NoText("a ticket has its number and three numbers for each part")
    return numbers


def _parts(numbers):
    """The list of the parts that a ticket's numbers tell."""
    return [tuple(numbers[at:at + 3]) for at in range(1, len(numbers), 3)]


def _numbers(row, word):
    """The numbers of a row that begins with this word."""
    words = row.split(" ")
    if words[0] != word:
        raise NoText(f"the row does not begin with {word}")
    for figures in words[1:]:
        if not _is_number(figures):
            raise NoText("what follows the word is not all numbers")
    return [int(figures) for figures in words[1:]]


def _is_number(word):
    """Whether a word is a number as it is written in a text."""
    if not (word.isascii() and word.isdigit()):
        return False
    return len(word) <= MOST_FIGURES and (word == "0" or not word.startswith("0"))
