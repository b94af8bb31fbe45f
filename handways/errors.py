"""The refusals of the package."""


class HandError(ValueError):
    """Any refusal."""


class BadProgram(HandError):
    """What was handed in is no program."""


class BadWays(HandError):
    """What was handed in is no ways for the program."""


class BadCells(HandError):
    """What was handed in is no tuple of three numbers."""


class BadText(HandError):
    """A text has a line that can't be so: `row` is its number, from 0."""

    def __init__(self, row):
        super().__init__(f"line {row} can't be so")
        self.row = row
