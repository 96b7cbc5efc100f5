"""The errors that the program raises."""


class Fault(ValueError):
    """The base class of all errors that the program raises."""


class ZeroDivisor(Fault):
    """A division by zero."""


class Malformed(Fault):
    """An argument does not have the form that is asked for."""


class Refused(Fault):
    """The program does not do this, for the reason given."""

    def __init__(self, reason):
        super().__init__(f"refused: {reason}")
        self.reason = reason


class TooLarge(Fault):
    """Something is larger than the program allows."""

    def __init__(self, what):
        super().__init__(f"too large: {what}")
        self.what = what


class NoText(Fault):
    """A text does not have the form that is asked for, from a position on."""

    def __init__(self, at):
        super().__init__(f"no text from position {at} on")
        self.at = at
