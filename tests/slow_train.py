"""A slow train that follows the points of the document word by word.

It keeps nothing but the tickets' parts, and looks through all of them
whenever it is asked. A refusal is told by the name of its class.
"""


class SlowTrain:
    def __init__(self, seats, stops):
        self.seats = seats
        self.stops = stops
        self.sold = {}
        self.many = 0

    def holder(self, seat, leg):
        if seat not in range(self.seats):
            return "NoSeat"
        if leg not in range(self.stops - 1):
            return "NoLeg"
        holders = [
            ticket
            for ticket, parts in self.sold.items()
            for at, begin, end in parts
            if at == seat and leg in range(begin, end)
        ]
        if len(holders) > 1:
            raise AssertionError("a seat is shared")
        return holders[0] if holders else None

    def free(self, seat, begin, end):
        return all(self.holder(seat, leg) is None for leg in range(begin, end))

    def load(self, leg):
        if leg not in range(self.stops - 1):
            return "NoLeg"
        return sum(self.holder(seat, leg) is not None for seat in range(self.seats))

    def farthest(self, seat, stop):
        if seat not in range(self.seats):
            return "NoSeat"
        if stop not in range(self.stops):
            return "NoStop"
        return max(end for end in range(stop, self.stops) if self.free(seat, stop, end))

    def blocked(self, begin, end):
        if begin not in range(self.stops) or end not in range(self.stops) or begin >= end:
            return "NoStretch"
        full = [leg for leg in range(begin, end) if self.load(leg) == self.seats]
        return min(full, default=None)

    def row(self, begin, end):
        blocked = self.blocked(begin, end)
        if blocked is not None:
            return "NoStretch" if blocked == "NoStretch" else "Full"
        parts = []
        while begin < end:
            leads = {seat: min(self.farthest(seat, begin), end) for seat in range(self.seats)}
            reached = max(leads.values())
            seat = min(seat for seat in leads if leads[seat] == reached)
            parts.append((seat, begin, reached))
            begin = reached
        return parts

    def sell(self, begin, end):
        parts = self.row(begin, end)
        if isinstance(parts, str):
            return parts
        self.sold[self.many] = parts
        self.many += 1
        return self.many - 1

    def back(self, ticket):
        return self.sold.pop(ticket, "NoTicket")

    def leave(self, ticket, stop):
        if ticket not in self.sold:
            return "NoTicket"
        parts = self.sold[ticket]
        if not parts[0][1] < stop < parts[-1][2]:
            return "NoStop"
        kept, freed = [], []
        for seat, begin, end in parts:
            if end <= stop:
                kept.append((seat, begin, end))
            elif begin >= stop:
                freed.append((seat, begin, end))
            else:
                kept.append((seat, begin, stop))
                freed.append((seat, stop, end))
        self.sold[ticket] = kept
        return freed

    def reseat(self, ticket):
        if ticket not in self.sold:
            return "NoTicket"
        parts = self.sold.pop(ticket)
        self.sold[ticket] = self.row(parts[0][1], parts[-1][2])
        return list(self.sold[ticket])

    def parts(self, ticket):
        return list(self.sold.get(ticket, "")) or "NoTicket"

    def tickets(self):
        return sorted(self.sold)

    def size(self):
        return (self.seats, self.stops)
