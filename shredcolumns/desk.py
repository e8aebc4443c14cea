"""The calls on one object, told and answered as lists of whole numbers."""

from shredcolumns.entries import shred
from shredcolumns.refusals import (
    NO_SCHEMA, NO_SUCH_COLUMN, NO_SUCH_ROW, TOO_MANY_ROWS, WRONG_TEXT,
    NoSchema, NoSuchColumn, NoSuchRow, TooManyRows, UnknownCall, WrongText,
)
from shredcolumns.rows import read_row
from shredcolumns.schemas import read_schema

MOST_ROWS = 100

CALL_SCHEMA = 0
CALL_PUT = 1
CALL_ROWS = 2
CALL_SHOW = 3
CALL_COLUMN = 4
CALL_ENTRIES = 5


class Row:
    def __init__(self, text, entries):
        self.text = text
        self.entries = entries


class Desk:
    def __init__(self):
        self.schema = None
        self.kept = []

    def replace_schema(self, text):
        self.schema = read_schema(text)
        self.kept = []
        return [0]

    def known_schema(self):
        if self.schema is None:
            raise NoSchema()
        return self.schema

    def put_row(self, text):
        schema = self.known_schema()
        value = read_row(schema.record, text)
        if len(self.kept) == MOST_ROWS:
            raise TooManyRows()
        self.kept.append(Row(text, shred(schema, value)))
        return [len(self.kept) - 1]

    def count_rows(self):
        self.known_schema()
        return [len(self.kept)]

    def show_row(self, number):
        self.known_schema()
        if number < 0 or number >= len(self.kept):
            raise NoSuchRow()
        text = self.kept[number].text
        return [len(text)] + text

    def known_column(self, number):
        columns = self.known_schema().columns
        if number < 0 or number >= len(columns):
            raise NoSuchColumn()
        return columns[number]

    def tell_column(self, number):
        field = self.known_column(number)
        return [field.kind, field.size, field.repetition, field.definition, len(field.path)] + field.path

    def tell_entries(self, column, first, count):
        self.known_column(column)
        if first < 0 or count < 0 or first + count > len(self.kept):
            raise NoSuchRow()
        total = 0
        numbers = []
        for row in self.kept[first:first + count]:
            total += row.entries[column].total
            numbers.extend(row.entries[column].numbers)
        return [total] + numbers


class CallReader:
    def __init__(self, calls):
        self.calls = calls
        self.position = 0

    def has_more(self):
        return self.position < len(self.calls)

    def take_number(self):
        number = self.calls[self.position]
        self.position += 1
        return number

    def take_list(self):
        length = self.take_number()
        numbers = self.calls[self.position:self.position + length]
        self.position += length
        return numbers


# A call's numbers are all taken before the desk may refuse it, so that the next call is found.
def carry_out(desk, reader):
    call = reader.take_number()
    if call == CALL_SCHEMA:
        return desk.replace_schema(reader.take_list())
    if call == CALL_PUT:
        return desk.put_row(reader.take_list())
    if call == CALL_ROWS:
        return desk.count_rows()
    if call == CALL_SHOW:
        return desk.show_row(reader.take_number())
    if call == CALL_COLUMN:
        return desk.tell_column(reader.take_number())
    if call == CALL_ENTRIES:
        column = reader.take_number()
        first = reader.take_number()
        count = reader.take_number()
        return desk.tell_entries(column, first, count)
    raise UnknownCall()


def answer_next(desk, reader):
    try:
        return carry_out(desk, reader)
    except WrongText:
        return [WRONG_TEXT]
    except NoSchema:
        return [NO_SCHEMA]
    except NoSuchRow:
        return [NO_SUCH_ROW]
    except NoSuchColumn:
        return [NO_SUCH_COLUMN]
    except TooManyRows:
        return [TOO_MANY_ROWS]


def answers(calls):
    desk = Desk()
    reader = CallReader(calls)
    answered = []
    while reader.has_more():
        answer = answer_next(desk, reader)
        answered.append(len(answer))
        answered.extend(answer)
    return answered
