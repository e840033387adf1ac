"""The refusals of the package."""


class FarError(ValueError):
    """Any refusal of the package."""


class NoTurn(FarError):
    """A turn is none, or can't be done; place is its number, from 0."""

    def __init__(self, place):
        FarError.__init__(self, f"no turn at place {place}")
        self.place = place


class NoText(FarError):
    """A text holds a row that is no work; line is its number, from 0."""

    def __init__(self, line):
        FarError.__init__(self, f"no work in line {line}")
        self.line = line


class NoOrder(FarError):
    """What was handed in is no order of looking."""


class NoSize(FarError):
    """What was handed in is greater than can be gone through."""


class NoBack(FarError):
    """No turn stands that could be undone."""


class NoJob(FarError):
    """The works together are no job."""


class NoYard(FarError):
    """No yard stands."""


class NoLine(FarError):
    """A desk was told a row that it doesn't know."""
