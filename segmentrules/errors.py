"""The errors that stand for a text that is refused."""


class Fault(ValueError):
    """No text of its kind: at this place none goes on as the bytes do."""

    def __init__(self, place):
        self.place = place


class BeyondBounds(ValueError):
    """A text of its kind, but one with more of something than is allowed."""


class NotPaired(ValueError):
    """A row whose tags do not stand in pairs."""
