"""What several tests need: trains held as wanted, and all that a train tells."""

from legseats.errors import Full, SeatError
from legseats.trains import Train


def held(seats, stops, *wanted):
    """A train on which just the wanted (seat, begin, end) are held, and their tickets.

    The lower seats are held by tickets of one leg while a ticket is sold, so
    that the wanted seat is the least free one. The numbers have gaps then.
    """
    train = Train(seats, stops)
    tickets = []
    for seat, begin, end in wanted:
        fillers = []
        for leg in range(begin, end):
            for lower in range(seat):
                if train.holder(lower, leg) is None:
                    fillers.append(train.sell(leg, leg + 1))
        tickets.append(train.sell(begin, end))
        for filler in fillers:
            train.back(filler)
        if train.parts(tickets[-1]) != [(seat, begin, end)]:
            raise AssertionError("the train could not be held as wanted")
    return train, tickets


def refusal(call, *args):
    """The very class of the SeatError that a call raises, None where it raises none."""
    try:
        call(*args)
    except SeatError as refused:
        return type(refused)
    return None


def row_or_full(train, begin, end):
    try:
        return train.row(begin, end)
    except Full:
        return "full"


def told(train):
    """All that a train tells by its interface, but for the number sold next."""
    seats, stops = train.size()
    legs = range(stops - 1)
    stretches = [(begin, end) for end in range(stops) for begin in range(end)]
    return {
        "size": (seats, stops),
        "tickets": train.tickets(),
        "parts": [train.parts(ticket) for ticket in train.tickets()],
        "holders": [[train.holder(seat, leg) for leg in legs] for seat in range(seats)],
        "loads": [train.load(leg) for leg in legs],
        "farthest": [[train.farthest(seat, stop) for stop in range(stops)] for seat in range(seats)],
        "blocked": [train.blocked(*stretch) for stretch in stretches],
        "rows": [row_or_full(train, *stretch) for stretch in stretches],
    }
