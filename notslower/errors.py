"""The errors that the program raises."""


class TermError(ValueError):
    """The base class of all errors that the program raises."""


class BadText(TermError):
    """A text writes no term; `at` is the index of the first word that does not fit."""

    def __init__(self, at):
        TermError.__init__(self, f"word {at} does not fit, or is missing")
        self.at = at


class BadStep(TermError):
    """A derivation has a step that does not hold; `at` is the index of the first one."""

    def __init__(self, at):
        TermError.__init__(self, f"step {at} does not hold")
        self.at = at


class BadEntry(TermError):
    """A library has an entry that leads to no claim; `at` is the index of the first one."""

    def __init__(self, at):
        TermError.__init__(self, f"entry {at} leads to no claim")
        self.at = at


class BadLine(TermError):
    """A line may not stand where it stands, or is missing; `at` is the index of the first one."""

    def __init__(self, at):
        TermError.__init__(self, f"line {at} may not stand there, or is missing")
        self.at = at


class BadClaim(TermError):
    """Claims or a context do not lead to a claim; `what` tells which of them is refused."""

    def __init__(self, what):
        TermError.__init__(self, f"no claim follows, because of: {what}")
        self.what = what
