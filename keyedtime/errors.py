"""All refusals of the package."""


class TapError(ValueError):
    """Any refusal."""


class BadTaps(TapError):
    """No taps: a count of times, or the time of number `at`."""

    def __init__(self, at, why):
        TapError.__init__(self, f"time {at}: {why}")
        self.at = at
        self.why = why


class BadReading(TapError):
    """No reading of the taps."""


class BadWidth(TapError):
    """No width."""


class BadTable(TapError):
    """No table or no book: its row or word of number `at`."""

    def __init__(self, at, why):
        TapError.__init__(self, f"row {at}: {why}")
        self.at = at
        self.why = why


class BadWords(TapError):
    """No text that can be tapped by a table."""


class BadText(TapError):
    """No sheet: its row of number `row`."""

    def __init__(self, row):
        TapError.__init__(self, f"row {row} is not as it should be")
        self.row = row
