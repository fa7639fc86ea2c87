"""The refusals of farebreak, one class for each kind."""


class FareError(ValueError):
    """Any refusal."""


class BadPlace(FareError):
    """A place is none, or stands where it may not."""


class BadPrice(FareError):
    """A price is none."""


class TwiceTold(FareError):
    """A way has a row already."""


class TooMany(FareError):
    """A tariff has as many rows as it may have."""


class BadJourney(FareError):
    """A journey has too few or too many places, or stands still."""


class BadCuts(FareError):
    """Numbers tell no stretch or no parting of a journey."""


class NotHeld(FareError):
    """A parting has a stretch that does not hold."""


class NoParting(FareError):
    """No parting of a journey keeps the checks."""


class BadLine(FareError):
    """A line is not written as a row of a tariff."""
