"""A schema's text, read into its outermost record and its columns."""

from shredcolumns.fields import (
    BIT, CHOICE, KEYED, MANY, MAYBE, ONCE, RECORD, TEXT, WHOLE, field_within, outermost_record,
)
from shredcolumns.literals import read_literal, read_positive
from shredcolumns.reader import Reader
from shredcolumns.refusals import WrongText
from shredcolumns.signs import (
    CHOICE_END, CHOICE_START, EQUALS, LETTER_B, LETTER_I, LETTER_T, RECORD_END, RECORD_START, SEMICOLON,
    UNDERLINE, is_digit, is_letter,
)

LONGEST_SCHEMA = 2000
GREATEST_NUMBER = 999
LONGEST_NAME = 12
DEEPEST_GROUP = 6
MOST_COLUMNS = 40
FEWEST_BITS = 2
MOST_BITS = 64
MOST_BYTES = 999


class Schema:
    def __init__(self, record, columns):
        self.record = record
        self.columns = columns


def read_schema(text):
    if len(text) > LONGEST_SCHEMA:
        raise WrongText()
    reader = Reader(text)
    record = outermost_record()
    columns = []
    if reader.peek() != RECORD_START:
        raise WrongText()
    read_kind(reader, record, columns)
    reader.expect_end()
    return Schema(record, columns)


def read_kind(reader, field, columns):
    field.first_column = len(columns)
    if reader.take(RECORD_START):
        field.kind = RECORD
        read_fields(reader, field, columns)
        reader.expect(RECORD_END)
    elif reader.take(CHOICE_START):
        field.kind = CHOICE
        read_fields(reader, field, columns)
        reader.expect(CHOICE_END)
    else:
        read_leaf_kind(reader, field)
        add_column(columns, field)
    field.end_column = len(columns)


def read_leaf_kind(reader, field):
    if reader.take(LETTER_B):
        field.kind = BIT
    elif reader.take(LETTER_I):
        field.kind = WHOLE
        field.size = read_positive(reader, MOST_BITS)
        if field.size < FEWEST_BITS:
            raise WrongText()
    elif reader.take(LETTER_T):
        field.kind = TEXT
        field.size = read_positive(reader, MOST_BYTES)
    else:
        raise WrongText()


def add_column(columns, field):
    if len(columns) == MOST_COLUMNS:
        raise WrongText()
    columns.append(field)


def read_fields(reader, group, columns):
    # The outermost record has an empty path and is at depth 1.
    if len(group.path) + 1 > DEEPEST_GROUP:
        raise WrongText()
    read_next_field(reader, group, columns)
    while reader.take(SEMICOLON):
        read_next_field(reader, group, columns)


def read_next_field(reader, group, columns):
    number = read_positive(reader, GREATEST_NUMBER)
    name = read_name(reader)
    check_beside(group.fields, number, name)
    mode = read_mode(reader, group)
    field = field_within(group, number, name, mode)
    read_kind(reader, field, columns)
    if mode == KEYED and not has_key(field):
        raise WrongText()
    if reader.take(EQUALS):
        read_default(reader, group, field)
    group.fields.append(field)


def read_name(reader):
    begin = reader.place
    if not is_letter(reader.peek()):
        raise WrongText()
    while is_name_sign(reader.peek()):
        reader.step()
    if reader.place - begin > LONGEST_NAME:
        raise WrongText()
    return reader.text[begin:reader.place]


def is_name_sign(sign):
    return is_letter(sign) or is_digit(sign) or sign == UNDERLINE


def check_beside(fields, number, name):
    for field in fields:
        if number <= field.path[-1] or name == field.name:
            raise WrongText()


def read_mode(reader, group):
    mode = reader.peek()
    reader.step()
    if mode == ONCE:
        return mode
    if group.kind == CHOICE or mode not in (MAYBE, MANY, KEYED):
        raise WrongText()
    return mode


def has_key(field):
    if field.kind != RECORD:
        return False
    key = field.fields[0]
    return key.mode == ONCE and key.is_leaf()


def read_default(reader, group, field):
    if group.kind == CHOICE or field.mode != ONCE or not field.is_leaf():
        raise WrongText()
    # No call tells or uses a default, so it is only read, not kept.
    read_literal(reader, field)
