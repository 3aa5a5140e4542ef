"""Trains, whose seats are sold for stretches between stops."""

from legseats.errors import Full, NoLeg, NoSeat, NoStop, NoStretch, NoTicket, NoTrain, Shared

LEAST_SEATS = 1
MOST_SEATS = 60
LEAST_STOPS = 2
MOST_STOPS = 60


class Train:
    """A train: its seats, its stops and the tickets sold on it.

    The refusals do not show the numbers that were passed: Python refuses to
    write very long ones, and its error would come out in place of ours.
    """

    def __init__(self, seats, stops):
        if not LEAST_SEATS <= seats <= MOST_SEATS:
            raise NoTrain("a train has 1 to 60 seats")
        if not LEAST_STOPS <= stops <= MOST_STOPS:
            raise NoTrain("a train has 2 to 60 stops")
        self._seats = seats
        self._stops = stops
        self._legs = stops - 1
        self._held = [[None] * self._legs for _ in range(seats)]
        self._sold = {}
        self._next = 0

    def sell(self, begin, end):
        """Sell a ticket for a stretch; its number."""
        parts = self.row(begin, end)
        ticket = self._next
        self._next = ticket + 1
        self._seat(ticket, parts)
        return ticket

    def back(self, ticket):
        """Give a ticket back; the list of its parts."""
        parts = self.parts(ticket)
        self._mark(parts, None)
        del self._sold[ticket]
        return parts

    def leave(self, ticket, stop):
        """Leave a ticket at a stop; the list of the parts that are free again."""
        parts = self.parts(ticket)
        first, last = stretch_of(parts)
        if not first < stop < last:
            raise NoStop("the stop does not lie within the ticket's stretch")
        freed = [(seat, max(begin, stop), end) for seat, begin, end in parts if end > stop]
        kept = [(seat, begin, min(end, stop)) for seat, begin, end in parts if begin < stop]
        self._mark(freed, None)
        self._sold[ticket] = kept
        return freed

    def reseat(self, ticket):
        """Seat a ticket anew; the list of its parts."""
        parts = self.parts(ticket)
        begin, end = stretch_of(parts)
        # Its own seats must be free first: it may keep them, and they make
        # sure that the stretch is not blocked.
        self._mark(parts, None)
        self._seat(ticket, self._found(begin, end))
        return self.parts(ticket)

    def parts(self, ticket):
        """The list of a ticket's parts."""
        if ticket not in self._sold:
            raise NoTicket("there is no such ticket")
        return list(self._sold[ticket])

    def tickets(self):
        """The list of all tickets, rising."""
        return sorted(self._sold)

    def row(self, begin, end):
        """The list of the parts that a ticket sold now would have."""
        leg = self.blocked(begin, end)
        if leg is not None:
            raise Full(f"no seat is free on leg {leg}")
        return self._found(begin, end)

    def blocked(self, begin, end):
        """The first leg of a stretch on which no seat is free, or None."""
        self._check_stretch(begin, end)
        for leg in range(begin, end):
            if self.load(leg) == self._seats:
                return leg
        return None

    def farthest(self, seat, stop):
        """The stop to which a seat leads from a stop."""
        self._check_seat(seat)
        if not 0 <= stop < self._stops:
            raise NoStop("there is no such stop")
        held = self._held[seat]
        reached = stop
        while reached < self._legs and held[reached] is None:
            reached += 1
        return reached

    def holder(self, seat, leg):
        """The ticket that holds a seat on a leg, or None."""
        self._check_seat(seat)
        self._check_leg(leg)
        return self._held[seat][leg]

    def load(self, leg):
        """How many seats are held on a leg."""
        self._check_leg(leg)
        return len([held for held in self._held if held[leg] is not None])

    def size(self):
        """The numbers of seats and of stops."""
        return self._seats, self._stops

    def next_number(self):
        """The number of the ticket that is sold next."""
        return self._next

    def set_next_number(self, number):
        """Let the ticket that is sold next have this number, above all others."""
        self._next = number

    def enter(self, ticket, parts):
        """Enter a ticket that was sold before, under its number and with its parts.

        Refuses part by part with NoSeat, then with NoStretch, then with Shared.
        """
        ahead = None
        for part in parts:
            self._check_part(part, ahead)
            ahead = part
        self._seat(ticket, list(parts))

    def _check_seat(self, seat):
        if not 0 <= seat < self._seats:
            raise NoSeat("there is no such seat")

    def _check_leg(self, leg):
        if not 0 <= leg < self._legs:
            raise NoLeg("there is no such leg")

    def _check_stretch(self, begin, end):
        if not 0 <= begin < end < self._stops:
            raise NoStretch("the two stops are no stretch of this train")

    def _check_part(self, part, ahead):
        """Check a part of a ticket, behind the part ahead of it, or None."""
        seat, begin, end = part
        self._check_seat(seat)
        self._check_stretch(begin, end)
        if ahead is not None and (begin != ahead[2] or seat == ahead[0]):
            raise NoStretch("a part goes on where the one ahead ends, on another seat")
        if self.farthest(seat, begin) < end:
            raise Shared("the seat is held on a leg of the part")

    def _found(self, begin, end):
        """The parts of a stretch, which must not be blocked."""
        parts = []
        stop = begin
        while stop < end:
            seat, reached = self._best(stop, end)
            parts.append((seat, stop, reached))
            stop = reached
        return parts

    def _best(self, stop, end):
        """The least of the seats that lead farthest, up to the end, and how far."""
        best = 0
        far = stop
        for seat in range(self._seats):
            reached = min(self.farthest(seat, stop), end)
            if reached > far:
                best = seat
                far = reached
        return best, far

    def _seat(self, ticket, parts):
        """Let a ticket have these parts and hold their seats."""
        self._mark(parts, ticket)
        self._sold[ticket] = parts

    def _mark(self, parts, holder):
        """Enter a ticket, or None for free, on all legs of the parts."""
        for seat, begin, end in parts:
            for leg in range(begin, end):
                self._held[seat][leg] = holder


def stretch_of(parts):
    """The begin and the end of the stretch that these parts make."""
    return parts[0][1], parts[-1][2]
