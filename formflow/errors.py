"""The errors of formflow (c10)."""


class FlowError(ValueError):
    """The base of all others."""


class BadText(FlowError):
    """A text is no expression."""

    def __init__(self, token, reason):
        self.token = token
        self.reason = reason


class BadLine(FlowError):
    """A text is no form."""

    def __init__(self, line):
        self.line = line


class BadForm(FlowError):
    """A form has issues."""


class BadEdit(FlowError):
    """An edit is refused."""

    def __init__(self, reason):
        self.reason = reason


class BadMerge(FlowError):
    """A delta can't be merged."""

    def __init__(self, reason):
        self.reason = reason


class BadSaved(FlowError):
    """A text is no saved response."""

    def __init__(self, line):
        self.line = line


class BadTemplate(FlowError):
    """A text is no template of a form."""

    def __init__(self, place, reason):
        self.place = place
        self.reason = reason


class BadArgument(FlowError):
    """An argument is refused."""

    def __init__(self, reason):
        self.reason = reason


class BadJournal(FlowError):
    """A text is no journal of a form."""

    def __init__(self, place):
        self.place = place
