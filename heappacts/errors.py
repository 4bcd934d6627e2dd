"""The errors of the package."""


class HeappactsError(ValueError):
    """The base of all errors of the package."""


class TextFault(HeappactsError):
    """A text that is no program, with the place of its first fault."""

    def __init__(self, line, column, reason):
        super().__init__(f"line {line}, column {column}: {reason}")
        self.line = line
        self.column = column
        self.reason = reason


class ProgramFault(HeappactsError):
    """A program that breaks a rule; place is None where a whole procedure is meant."""

    def __init__(self, procedure, place, reason):
        super().__init__(f"procedure {procedure}, place {place}: {reason}")
        self.procedure = procedure
        self.place = place
        self.reason = reason


class TooMany(HeappactsError):
    """More contracts, cells or cases than the bounds allow."""

    def __init__(self):
        super().__init__("too many")
