"""What is raised when something is refused."""


class FallError(ValueError):
    """Any refusal."""


class BadBook(FallError):
    """A book that isn't one: the number and the word of the first wrong thing."""

    def __init__(self, at, why):
        super().__init__(f"no book: {why} at {at}")
        self.at = at
        self.why = why


class NoHouse(FallError):
    """A house that there isn't."""


class BadPayments(FallError):
    """Numbers that are no payments."""


class NoMove(FallError):
    """A move that doesn't fit, with its number."""

    def __init__(self, number):
        super().__init__(f"move {number} doesn't fit")
        self.number = number


class BadText(FallError):
    """A text that is no book by its words and figures, with its first wrong row."""

    def __init__(self, row):
        super().__init__(f"row {row} isn't so")
        self.row = row
