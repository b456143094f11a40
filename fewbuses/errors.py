"""The refusals."""


class BusError(ValueError):
    """Any refusal."""


class NoRide(BusError):
    """Something among the rides is no ride."""


class NoTrip(BusError):
    """Something among the trips is no trip."""


class NoPlace(BusError):
    """Something is no place."""


class NoNumber(BusError):
    """Something is no trip's number."""


class NotInTime(BusError):
    """A trip can't be done behind the one ahead of it."""
