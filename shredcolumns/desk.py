"""The calls on one object, told and answered as lists of whole numbers."""

from shredcolumns.entries import shred
from shredcolumns.faults import NO_FAULT, faultless_rows, first_fault
from shredcolumns.handed import read_columns
from shredcolumns.refusals import (
    NO_ROWS, NO_SCHEMA, NO_SUCH_COLUMN, NO_SUCH_ROW, TOO_MANY_ENTRIES, TOO_MANY_ROWS, WRONG_ENTRIES, WRONG_TEXT,
    NoRows, NoSchema, NoSuchColumn, NoSuchRow, TooManyEntries, TooManyRows, UnknownCall, WrongEntries, WrongText,
)
from shredcolumns.rows import read_row, row_text
from shredcolumns.schemas import read_schema

MOST_ROWS = 100

CALL_SCHEMA = 0
CALL_PUT = 1
CALL_ROWS = 2
CALL_SHOW = 3
CALL_COLUMN = 4
CALL_ENTRIES = 5
CALL_CHECK = 6
CALL_ASSEMBLE = 7
CALL_LOAD = 8
CALL_ADD = 9
CALL_DROP = 10


class Row:
    def __init__(self, text, entries):
        self.text = text
        self.entries = entries


class Desk:
    def __init__(self):
        self.schema = None
        self.kept = []

    def replace_schema(self, text):
        self.schema = read_schema(text)
        self.kept = []
        return [0]

    def known_schema(self):
        if self.schema is None:
            raise NoSchema()
        return self.schema

    def put_row(self, text):
        schema = self.known_schema()
        value = read_row(schema.record, text)
        if len(self.kept) == MOST_ROWS:
            raise TooManyRows()
        self.kept.append(Row(text, shred(schema, value)))
        return [len(self.kept) - 1]

    def count_rows(self):
        self.known_schema()
        return [len(self.kept)]

    def check_row(self, number):
        self.known_schema()
        if number < 0 or number >= len(self.kept):
            raise NoSuchRow()

    def show_row(self, number):
        self.check_row(number)
        text = self.kept[number].text
        return [len(text)] + text

    def known_column(self, number):
        columns = self.known_schema().columns
        if number < 0 or number >= len(columns):
            raise NoSuchColumn()
        return columns[number]

    def tell_column(self, number):
        field = self.known_column(number)
        return [field.kind, field.size, field.repetition, field.definition, len(field.path)] + field.path

    def tell_entries(self, column, first, count):
        self.known_column(column)
        if first < 0 or count < 0 or first + count > len(self.kept):
            raise NoSuchRow()
        total = 0
        numbers = []
        for row in self.kept[first:first + count]:
            total += row.entries[column].total
            numbers.extend(row.entries[column].numbers)
        return [total] + numbers

    def known_columns(self, numbers):
        self.known_schema()
        if len(numbers) == 0:
            raise NoSuchColumn()
        for place in range(1, len(numbers)):
            if numbers[place] <= numbers[place - 1]:
                raise NoSuchColumn()
        return [self.known_column(number) for number in numbers]

    def tell_fault(self, numbers, entries):
        columns = read_columns(self.known_columns(numbers), entries)
        fault = first_fault(self.schema.record, columns)
        if fault.kind == NO_FAULT:
            return [NO_FAULT, columns[0].count_beginnings(), 0]
        return [fault.kind, fault.column_place, fault.entry_place]

    def assemble_texts(self, numbers, entries):
        columns = read_columns(self.known_columns(numbers), entries)
        record = self.schema.record
        values = faultless_rows(record, columns)
        told = [len(values)]
        for value in values:
            text = row_text(record, value)
            told.append(len(text))
            told.extend(text)
        return told

    def load_rows(self, entries):
        self.kept = self.joined_rows([], entries)
        return [len(self.kept)]

    def add_rows(self, entries):
        self.kept = self.joined_rows(self.kept, entries)
        return [len(self.kept)]

    def joined_rows(self, before, entries):
        schema = self.known_schema()
        values = faultless_rows(schema.record, read_columns(schema.columns, entries))
        if len(before) + len(values) > MOST_ROWS:
            raise TooManyRows()
        return before + [Row(row_text(schema.record, value), shred(schema, value)) for value in values]

    def drop_row(self, number):
        self.check_row(number)
        self.kept.pop(number)
        return [0]


class CallReader:
    def __init__(self, calls):
        self.calls = calls
        self.position = 0

    def has_more(self):
        return self.position < len(self.calls)

    def take_number(self):
        number = self.calls[self.position]
        self.position += 1
        return number

    def take_list(self):
        length = self.take_number()
        numbers = self.calls[self.position:self.position + length]
        self.position += length
        return numbers


# A call's numbers are all taken before the desk may refuse it, so that the next call is found.
def carry_out(desk, reader):
    call = reader.take_number()
    if call == CALL_SCHEMA:
        return desk.replace_schema(reader.take_list())
    if call == CALL_PUT:
        return desk.put_row(reader.take_list())
    if call == CALL_ROWS:
        return desk.count_rows()
    if call == CALL_SHOW:
        return desk.show_row(reader.take_number())
    if call == CALL_COLUMN:
        return desk.tell_column(reader.take_number())
    if call == CALL_ENTRIES:
        column = reader.take_number()
        first = reader.take_number()
        count = reader.take_number()
        return desk.tell_entries(column, first, count)
    if call == CALL_CHECK:
        columns = reader.take_list()
        return desk.tell_fault(columns, reader.take_list())
    if call == CALL_ASSEMBLE:
        columns = reader.take_list()
        return desk.assemble_texts(columns, reader.take_list())
    if call == CALL_LOAD:
        return desk.load_rows(reader.take_list())
    if call == CALL_ADD:
        return desk.add_rows(reader.take_list())
    if call == CALL_DROP:
        return desk.drop_row(reader.take_number())
    raise UnknownCall()


def answer_next(desk, reader):
    try:
        return carry_out(desk, reader)
    except WrongText:
        return [WRONG_TEXT]
    except NoRows:
        return [NO_ROWS]
    except NoSchema:
        return [NO_SCHEMA]
    except NoSuchRow:
        return [NO_SUCH_ROW]
    except NoSuchColumn:
        return [NO_SUCH_COLUMN]
    except TooManyRows:
        return [TOO_MANY_ROWS]
    except TooManyEntries:
        return [TOO_MANY_ENTRIES]
    except WrongEntries:
        return [WRONG_ENTRIES]


def answers(calls):
    desk = Desk()
    reader = CallReader(calls)
    answered = []
    while reader.has_more():
        answer = answer_next(desk, reader)
        answered.append(len(answer))
        answered.extend(answer)
    return answered
