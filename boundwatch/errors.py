"""The refusals of a program."""


class BoundError(ValueError):
    """Any refusal."""


class BadShelves(BoundError):
    """The shelves of a program may not stand."""


class BadRow(BoundError):
    """A row of a program may not stand; at is its number."""

    def __init__(self, at):
        BoundError.__init__(self, f"row {at} may not stand")
        self.at = at
