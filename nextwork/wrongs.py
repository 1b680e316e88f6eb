"""The errors that the program raises."""


class WorkError(ValueError):
    """What all errors of the program are."""


class NoFraction(WorkError):
    """A value is not a fraction, or none can be made of it."""


class NoWork(WorkError):
    """A value is not a work."""


class NoShare(WorkError):
    """A value is not a share."""


class NoState(WorkError):
    """A value is not a state of the work."""


class NoStates(WorkError):
    """A value is not an ascending tuple of different states of the work."""


class NoCompany(WorkError):
    """A value is not a company."""


class NoStanding(WorkError):
    """A value is not a standing of the company."""


class NoChoice(WorkError):
    """A value is not the number of a work of the company."""


class NoPlan(WorkError):
    """A value is not a plan."""


class NoRule(WorkError):
    """A value is not a rule of the company."""


class NoPrice(WorkError):
    """A value is not a price."""


class NoChoices(WorkError):
    """A value is not choices of the company."""


class NoNumbers(WorkError):
    """A value is not wanted numbers of the work."""


class NoRecord(WorkError):
    """A value is not a record."""


class NoMove(WorkError):
    """The work that is gone on with does not move to the state."""

    def __init__(self, state):
        self.state = state


class NoMark(WorkError):
    """There is no mark of the number."""

    def __init__(self, number):
        self.number = number


class TooMany(WorkError):
    """There would be more of something than the limit."""

    def __init__(self, limit):
        self.limit = limit
