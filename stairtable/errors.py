"""The refusals of the program."""


class StairError(ValueError):
    pass


class NoTable(StairError):
    pass


class NoMarks(StairError):
    pass


class NoPair(StairError):
    pass


class NoLine(StairError):
    pass


class NoShape(StairError):
    pass


class Empty(StairError):
    pass
