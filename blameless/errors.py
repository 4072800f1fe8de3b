"""The errors that the program raises."""


class BlameError(ValueError):
    """The base class of all errors of the program."""


class BadText(BlameError):
    """A text that cannot be read; `at` is the index of a word."""

    def __init__(self, at):
        BlameError.__init__(self, f"the text cannot be read at word {at}")
        self.at = at


class BadInterface(BlameError):
    """An interface that is not valid; `at` is the number of a component."""

    def __init__(self, at):
        BlameError.__init__(self, f"the interface is not valid at component {at}")
        self.at = at


class BadTrace(BlameError):
    """A trace that cannot come; `at` is the index of an event or a line."""

    def __init__(self, at):
        BlameError.__init__(self, f"the trace cannot come at event {at}")
        self.at = at


class TooLarge(BlameError):
    """Something that is too large; `what` names it."""

    def __init__(self, what):
        BlameError.__init__(self, f"too large: {what}")
        self.what = what
