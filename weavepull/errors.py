"""The refusals of Weavepull."""


class WeaveError(ValueError):
    """Any refusal."""


class BadLine(WeaveError):
    """A line of a weave that cannot be: its number, and the first word of what is wrong."""

    def __init__(self, at, why):
        super().__init__(f"line {at} cannot be: {why}")
        self.at = at
        self.why = why


class BadText(WeaveError):
    """A text that is not one of a weave: the number of the first row that is wrong."""

    def __init__(self, row):
        super().__init__(f"row {row} is no line of a weave")
        self.row = row


class NoOutlet(WeaveError):
    """An outlet that there is not, or that would be one of no line."""


class LetGo(WeaveError):
    """An outlet that was let go of already."""


class NoSource(WeaveError):
    """A source that there is not."""


class Over(WeaveError):
    """A source that had its end already."""
