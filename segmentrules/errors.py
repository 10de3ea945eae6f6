"""The errors that stand for refusals."""

# The kinds of faults where several texts are handed in, each of which may have one.
NO_TARGET = 1
NO_ROW = 2
TOO_MANY_PIECES = 3
NOT_FITTING = 4
NOT_AS_MANY = 5
NO_RULES = 6
NO_DOCUMENT = 7


class Refusal(ValueError):
    """A call that is refused; the number is what it answers."""

    def __init__(self, number):
        self.number = number


class TooLarge(Refusal):
    """A text of more bytes than one of its kind may have."""

    def __init__(self):
        Refusal.__init__(self, -6)


class Fault(Refusal):
    """No text of its kind: at this place none goes on as the bytes do."""

    def __init__(self, place):
        Refusal.__init__(self, -5)
        self.place = place


class FaultOfKind(Refusal):
    """A fault that is told by its kind and its place."""

    def __init__(self, kind, place):
        Refusal.__init__(self, -5)
        self.kind = kind
        self.place = place


class BeyondBounds(Refusal):
    """A text of its kind, but one with more of something than is allowed."""

    def __init__(self):
        Refusal.__init__(self, -6)


class NotPaired(Refusal):
    """A row whose tags do not stand in pairs."""

    def __init__(self):
        Refusal.__init__(self, -5)


class NotThere(Refusal):
    """What is asked for by its number is not there."""

    def __init__(self):
        Refusal.__init__(self, -2)


def read_as(kind, read):
    """What the reading gives; a Fault in it is told by this kind, too."""
    try:
        return read()
    except Fault as fault:
        raise FaultOfKind(kind, fault.place)
