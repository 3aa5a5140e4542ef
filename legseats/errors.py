"""The refusals of the program."""


class SeatError(ValueError):
    """Any refusal."""


class NoTrain(SeatError):
    """A train cannot have this many seats or stops."""


class NoStretch(SeatError):
    """The two stops are no stretch of the train."""


class NoSeat(SeatError):
    """The train has no such seat."""


class NoStop(SeatError):
    """The train has no such stop, or it does not lie within the stretch."""


class NoLeg(SeatError):
    """The train has no such leg."""


class NoTicket(SeatError):
    """There is no such ticket."""


class Full(SeatError):
    """No seat is free on some leg of the stretch."""


class Shared(SeatError):
    """Two tickets would hold one seat on one leg."""


class NoText(SeatError):
    """The text is not of the form in which trains are written."""
