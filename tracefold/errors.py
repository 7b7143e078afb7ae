"""The refusals: each carries the number of the first row that is wrong."""


class FoldError(ValueError):
    """Any refusal; `at` is the row's number."""

    def __init__(self, at):
        ValueError.__init__(self, f"row {at} is wrong")
        self.at = at


class NoRow(FoldError):
    """What stands there is none of the tuples that are rows."""


class NoPlace(FoldError):
    """A jump or a zero whose place is no row's number."""
