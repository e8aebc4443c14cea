"""A row's text, read into the row's value, and the value written as its text again.

A leaf's value is a Literal. A group's value is a list that has, for each of the group's fields, the list of
that field's occurrences; in a choice all of these but one are empty. Where only some columns are told, a field
that is left out has an empty list too.
"""

from shredcolumns.fields import CHOICE, KEYED, ONCE, RECORD, is_repeating
from shredcolumns.literals import read_literal
from shredcolumns.reader import Reader
from shredcolumns.refusals import WrongText
from shredcolumns.signs import CHOICE_END, CHOICE_START, COLON, COMMA, RECORD_END, RECORD_START, SEMICOLON

LONGEST_ROW = 4000


def read_row(record, text):
    if len(text) > LONGEST_ROW:
        raise WrongText()
    reader = Reader(text)
    value = read_value(reader, record)
    reader.expect_end()
    return value


# Values nest no deeper than the schema's groups, so the readers below may call one another.
def read_value(reader, field):
    if field.kind == RECORD:
        return read_record(reader, field)
    if field.kind == CHOICE:
        return read_choice(reader, field)
    return read_literal(reader, field)


def read_record(reader, record):
    reader.expect(RECORD_START)
    value = []
    between = []
    for field in record.fields:
        occurrences = []
        if reader.take_all(between + field.name + [COLON]):
            occurrences = read_occurrences(reader, field)
            between = [SEMICOLON]
        elif field.mode == ONCE:
            raise WrongText()
        value.append(occurrences)
    reader.expect(RECORD_END)
    return value


def read_occurrences(reader, field):
    occurrences = [read_value(reader, field)]
    if is_repeating(field.mode):
        while reader.take(COMMA):
            occurrences.append(read_value(reader, field))
    if field.mode == KEYED and not keys_rise(occurrences):
        raise WrongText()
    return occurrences


def keys_rise(occurrences):
    for place in range(1, len(occurrences)):
        if key_of(occurrences[place]) <= key_of(occurrences[place - 1]):
            return False
    return True


def key_of(value):
    # The key is the first field of its record and occurs just once.
    return value[0][0].meaning


def read_choice(reader, choice):
    reader.expect(CHOICE_START)
    value = []
    taken = False
    for field in choice.fields:
        occurrences = []
        if not taken and reader.take_all(field.name + [COLON]):
            occurrences.append(read_value(reader, field))
            taken = True
        value.append(occurrences)
    if not taken:
        raise WrongText()
    reader.expect(CHOICE_END)
    return value


def row_text(record, value):
    text = []
    write_value(record, value, text)
    return text


def write_value(field, value, text):
    if field.kind == RECORD:
        text.append(RECORD_START)
        write_fields(field, value, text)
        text.append(RECORD_END)
    elif field.kind == CHOICE:
        text.append(CHOICE_START)
        write_fields(field, value, text)
        text.append(CHOICE_END)
    else:
        text.extend(value.signs)


def write_fields(group, value, text):
    between = []
    for field, occurrences in zip(group.fields, value):
        if len(occurrences) > 0:
            text.extend(between + field.name + [COLON])
            write_occurrences(field, occurrences, text)
            between = [SEMICOLON]


def write_occurrences(field, occurrences, text):
    write_value(field, occurrences[0], text)
    for value in occurrences[1:]:
        text.append(COMMA)
        write_value(field, value, text)
