"""Long rows of deeds on a train, that look thrown but are the same in each run."""

from legseats.errors import SeatError


class Numbers:
    """Numbers that look thrown but are the same in each run."""

    def __init__(self, begin):
        self.now = begin * 2654435761 % 2 ** 32

    def below(self, limit):
        self.now ^= self.now << 13 & 0xFFFFFFFF
        self.now ^= self.now >> 17
        self.now ^= self.now << 5 & 0xFFFFFFFF
        return self.now % limit


def answer(call, *args):
    try:
        return call(*args)
    except SeatError as refused:
        return refused.__class__.__name__


def some_stretch(numbers, stops):
    """Mostly a stretch, now and then two numbers that may be none."""
    if numbers.below(10) == 0:
        return [numbers.below(stops + 4) - 2, numbers.below(stops + 4) - 2]
    begin = numbers.below(stops - 1)
    return [begin, begin + 1 + numbers.below(stops - 1 - begin)]


def some_ticket(numbers, train):
    """Mostly a ticket of the train, now and then a number that may be none."""
    tickets = train.tickets()
    if not tickets or numbers.below(10) == 0:
        return numbers.below(40) - 2
    return tickets[numbers.below(len(tickets))]


def some_stop(numbers, train, ticket):
    """Mostly a stop from a ticket's begin to its end, now and then any number."""
    stops = train.size()[1]
    if ticket not in train.tickets() or numbers.below(4) == 0:
        return numbers.below(stops + 4) - 2
    parts = train.parts(ticket)
    return parts[0][1] + numbers.below(parts[-1][2] - parts[0][1] + 1)


def deed(numbers, train):
    """The next deed: the method's name and its arguments."""
    chosen = numbers.below(10)
    if chosen < 4:
        return "sell", some_stretch(numbers, train.size()[1])
    ticket = some_ticket(numbers, train)
    if chosen < 6:
        return "back", [ticket]
    if chosen < 8:
        return "leave", [ticket, some_stop(numbers, train, ticket)]
    return "reseat", [ticket]
