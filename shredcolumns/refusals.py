"""The refusals, one error class each, and the error for a call that is not there."""

WRONG_TEXT = -1
NO_ROWS = -1
NO_SCHEMA = -2
NO_SUCH_ROW = -3
NO_SUCH_COLUMN = -4
TOO_MANY_ROWS = -5
TOO_MANY_ENTRIES = -6
WRONG_ENTRIES = -7


class WrongText(Exception):
    pass


class NoRows(Exception):
    pass


class NoSchema(Exception):
    pass


class NoSuchRow(Exception):
    pass


class NoSuchColumn(Exception):
    pass


class TooManyRows(Exception):
    pass


class TooManyEntries(Exception):
    pass


class WrongEntries(Exception):
    pass


class UnknownCall(Exception):
    pass
