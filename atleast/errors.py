"""The refusals of the program, one class for each."""


class RowError(ValueError):
    pass


class NoRow(RowError):
    pass


class NoUnknown(RowError):
    pass


class NoWeights(RowError):
    pass


class NoValues(RowError):
    pass


class NoWay(RowError):
    pass


class NoLine(RowError):
    pass
