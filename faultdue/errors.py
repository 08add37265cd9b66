"""The errors that the package raises."""


class FaultError(ValueError):
    """What all errors of the package have above them."""


class BadSystem(FaultError):
    """Budgets, a system or a text that is refused: its line, 0 if there is none, and the reason."""

    def __init__(self, line, reason):
        self.line = line
        self.reason = reason


class BadPlan(FaultError):
    """Arrivals or a plan that is refused: the index of the first wrong item."""

    def __init__(self, place):
        self.place = place


class BadEntry(FaultError):
    """A log that cannot be replayed: the index of the first wrong entry."""

    def __init__(self, place):
        self.place = place


class BadState(FaultError):
    """A deed that cannot be done at the desk as it is."""
