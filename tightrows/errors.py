"""The refusals of tightrows, each with a class of its own."""


class RowsError(ValueError):
    pass


class BadValue(RowsError):
    pass


class NoPacking(RowsError):
    pass


class BadBits(RowsError):
    pass


class NoRow(RowsError):
    pass


class BadQuestion(RowsError):
    pass


class NoColumn(RowsError):
    pass


class BadRow(RowsError):
    pass


class BadTable(RowsError):
    pass
