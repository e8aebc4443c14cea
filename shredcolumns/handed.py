"""Entries that are handed in as one list of numbers, read column by column."""

from shredcolumns.literals import literal_or_none
from shredcolumns.refusals import TooManyEntries, WrongEntries

MOST_ENTRIES = 1000
GREATEST_BYTE = 255


class Entry:
    def __init__(self, repetition, definition, literal):
        self.repetition = repetition
        self.definition = definition
        # None in a gap, and also where what is handed is no literal of the column's kind.
        self.literal = literal


class HandedColumn:
    def __init__(self, field, entries):
        self.field = field
        self.entries = entries

    def count_beginnings(self):
        return len([entry for entry in self.entries if entry.repetition == 0])


class NumberReader:
    def __init__(self, numbers):
        self.numbers = numbers
        self.position = 0

    def take_number(self):
        if self.position == len(self.numbers):
            raise WrongEntries()
        number = self.numbers[self.position]
        if number < 0:
            raise WrongEntries()
        self.position += 1
        return number

    def take_bytes(self):
        length = self.take_number()
        if length > len(self.numbers) - self.position:
            raise WrongEntries()
        taken = self.numbers[self.position:self.position + length]
        for byte in taken:
            if byte < 0 or byte > GREATEST_BYTE:
                raise WrongEntries()
        self.position += length
        return taken

    def expect_end(self):
        if self.position != len(self.numbers):
            raise WrongEntries()


def read_columns(fields, numbers):
    reader = NumberReader(numbers)
    columns = [HandedColumn(field, read_entries(reader, field)) for field in fields]
    reader.expect_end()
    # Only looked at when all is read: a list that is in the wrong form is refused for that first.
    for column in columns:
        if len(column.entries) > MOST_ENTRIES:
            raise TooManyEntries()
    return columns


def read_entries(reader, field):
    total = reader.take_number()
    entries = []
    # A count may be far greater than what is handed: the list's end stops this loop.
    while len(entries) < total:
        entries.append(read_entry(reader, field))
    return entries


def read_entry(reader, field):
    repetition = reader.take_number()
    definition = reader.take_number()
    literal = None
    if definition == field.definition:
        literal = literal_or_none(reader.take_bytes(), field)
    return Entry(repetition, definition, literal)
