"""Packings: all tickets seated anew together, so that nobody changes seats."""

from legseats.trains import stretch_of


def packed(train):
    """A packing: a list of (ticket, seat), one for each ticket, by rising numbers.

    The tickets take seats in the order of their begins. A new seat is taken
    only where all seats in use are held on the leg behind the begin, so that
    there are never more of them than tickets on that leg.
    """
    free_from = []
    seats = {}
    for begin, end, ticket in sorted(_stretches(train)):
        seat = _free_seat(free_from, begin)
        if seat == len(free_from):
            free_from.append(end)
        else:
            free_from[seat] = end
        seats[ticket] = seat
    return [(ticket, seats[ticket]) for ticket in train.tickets()]


def _stretches(train):
    """The list of all tickets, as (begin, end, ticket)."""
    stretches = []
    for ticket in train.tickets():
        begin, end = stretch_of(train.parts(ticket))
        stretches.append((begin, end, ticket))
    return stretches


def _free_seat(free_from, stop):
    """The least of the seats in use that is free from a stop on, else a new one."""
    for seat, free in enumerate(free_from):
        if free <= stop:
            return seat
    return len(free_from)
