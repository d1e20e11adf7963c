"""The errors of the program."""


class CellguardError(ValueError):
    """The base class of all errors that the program raises."""


class InvalidText(CellguardError):
    """A line of a text has another form than the document describes."""

    def __init__(self, line):
        CellguardError.__init__(self, f"line {line} is not valid")
        self.line = line


class UnknownName(CellguardError):
    """There is no area, table or attribute with this name."""

    def __init__(self, name):
        CellguardError.__init__(self, f"{name} is not known")
        self.name = name


class InvalidPlan(CellguardError):
    """Areas, attributes or tables break a rule of plans."""


class InvalidRecord(CellguardError):
    """A record or its values do not fit the plan."""


class InvalidPattern(CellguardError):
    """A pattern is not an ascending list of cells of its table."""


class InvalidPublication(CellguardError):
    """A publication has wrong keys or numbers, or no census agrees with it."""


class InvalidFlow(CellguardError):
    """An arc breaks a rule of networks, or a network has no flow."""


class Refused(CellguardError):
    """What was asked for would disclose too much."""


class TooLarge(CellguardError):
    """What was asked for would take too long."""
