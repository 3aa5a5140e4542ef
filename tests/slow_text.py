"""Point 12 word by word: what a text tells, or the name of its refusal."""

import re

NUMBER = "(?:0|[1-9][0-9]{0,8})"
TRAIN = re.compile(f"train( {NUMBER}){{3}}")
TICKET = re.compile(f"ticket {NUMBER}( {NUMBER} {NUMBER} {NUMBER})+")


def numbers_of(row):
    return [int(word) for word in row.split(" ")[1:]]


def slow_read(text):
    """Seats, stops, the number sold next and a dict of all tickets' parts, or a refusal's name."""
    first, *rows = text.split("\n")
    if not TRAIN.fullmatch(first) or not all(TICKET.fullmatch(row) for row in rows):
        return "NoText"
    seats, stops, next_number = numbers_of(first)
    if seats not in range(1, 61) or stops not in range(2, 61):
        return "NoTrain"
    tickets, taken = {}, set()
    for ticket, *numbers in map(numbers_of, rows):
        if any(ticket <= other for other in tickets) or ticket >= next_number:
            return "NoTicket"
        parts = list(zip(numbers[0::3], numbers[1::3], numbers[2::3]))
        for at, (seat, begin, end) in enumerate(parts):
            if seat >= seats:
                return "NoSeat"
            if begin >= end or end >= stops:
                return "NoStretch"
            if at > 0 and (parts[at - 1][2] != begin or parts[at - 1][0] == seat):
                return "NoStretch"
            legs = {(seat, leg) for leg in range(begin, end)}
            if legs & taken:
                return "Shared"
            taken |= legs
        tickets[ticket] = parts
    return seats, stops, next_number, tickets
