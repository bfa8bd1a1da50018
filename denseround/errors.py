"""What the package refuses, one class for each kind of refusal."""


class YardError(ValueError):
    """Any refusal."""


class BadYard(YardError):
    """A yard that cannot be: `at` is the number of the tie, `why` the word."""

    def __init__(self, at, why):
        YardError.__init__(self, f"{why} at {at}")
        self.at = at
        self.why = why


class BadOrder(YardError):
    """What is no order of the yard's places, or no turning of it."""


class TooMany(YardError):
    """A yard with more places than can be searched."""


class BadText(YardError):
    """A text of which the row with this number, from 0, isn't as told."""

    def __init__(self, row):
        YardError.__init__(self, f"row {row}")
        self.row = row
