"""The errors of the package."""


class SettleError(ValueError):
    """The base class of all errors."""


class TextError(SettleError):
    """A text that cannot be read: what is wrong with it, and at which index."""

    def __init__(self, place, message):
        super().__init__(f"{message} at {place}")
        self.place = place
        self.message = message


class NotPossible(SettleError):
    """No document of the schema has this beginning."""
