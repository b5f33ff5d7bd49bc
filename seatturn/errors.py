"""The refusals of the package, one class for each."""


class SeatError(ValueError):
    pass


class BadTurning(SeatError):
    pass


class OtherLength(SeatError):
    pass


class BadRings(SeatError):
    pass


class NoRank(SeatError):
    pass
