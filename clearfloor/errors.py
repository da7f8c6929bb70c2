"""The errors of the package ([87])."""


class ClearfloorError(ValueError):
    """The base of all errors of the package."""


class MapError(ClearfloorError):
    """A text is not a map. Its fault has a line, a column and a problem."""

    def __init__(self, line, column, problem):
        super().__init__(f"line {line}, column {column}: {problem}")
        self.line = line
        self.column = column
        self.problem = problem


class LineError(ClearfloorError):
    """A line of a text has another form than it must have."""

    def __init__(self, line):
        super().__init__(f"line {line} is wrong")
        self.line = line


class RefusedError(ClearfloorError):
    """An event cannot happen. The line is 0 if there is none."""

    def __init__(self, reason, line=0):
        where = f"line {line}: " if line else ""
        super().__init__(f"{where}{reason}")
        self.reason = reason
        self.line = line


class LimitError(ClearfloorError):
    """Something would become larger than it may be."""

    def __init__(self, reason):
        super().__init__(f"{reason}")
        self.reason = reason


class PowerCut(ClearfloorError):
    """The power of a device ended while it wrote."""

    def __init__(self, written):
        super().__init__(f"power cut behind {written} bytes")
        self.written = written


class ShutError(ClearfloorError):
    """A warehouse that is shut was told to change."""

    def __init__(self):
        super().__init__("the warehouse is shut")


class MoveError(ClearfloorError):
    """A move of a row of moves cannot be made."""

    def __init__(self, index):
        super().__init__(f"move {index} cannot be made")
        self.index = index
