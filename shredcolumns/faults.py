"""The first fault of handed columns, and the rows of those that have none."""

from shredcolumns.assembly import assemble_rows
from shredcolumns.refusals import NoRows

NO_FAULT = 0
LEVEL_TOO_GREAT = 1
NO_LITERAL = 2
NO_BEGINNING = 3
NOTHING_REPEATED = 4
ROWS_NOT_THERE = 5


class Fault:
    def __init__(self, kind, column_place, entry_place):
        self.kind = kind
        self.column_place = column_place
        self.entry_place = entry_place


def first_fault(record, columns):
    fault = first_entry_fault(columns)
    if fault.kind != NO_FAULT or has_rows(record, columns):
        return fault
    return Fault(ROWS_NOT_THERE, first_without_rows(record, columns), 0)


def faultless_rows(record, columns):
    if first_entry_fault(columns).kind != NO_FAULT:
        raise NoRows()
    return assemble_rows(record, columns)


def first_entry_fault(columns):
    for column_place, column in enumerate(columns):
        for entry_place in range(len(column.entries)):
            kind = entry_fault_kind(column.field, column.entries, entry_place)
            if kind != NO_FAULT:
                return Fault(kind, column_place, entry_place)
    return Fault(NO_FAULT, 0, 0)


def entry_fault_kind(field, entries, place):
    entry = entries[place]
    if entry.repetition > field.repetition or entry.definition > field.definition:
        return LEVEL_TOO_GREAT
    if entry.definition == field.definition and entry.literal is None:
        return NO_LITERAL
    if entry.repetition == 0:
        return NO_FAULT
    if place == 0:
        return NO_BEGINNING
    # Both entries lie within the field that is repeated, so both must tell that it occurs.
    needed = field.repeating_levels[entry.repetition - 1]
    if entry.definition < needed or entries[place - 1].definition < needed:
        return NOTHING_REPEATED
    return NO_FAULT


def has_rows(record, columns):
    try:
        assemble_rows(record, columns)
    except NoRows:
        return False
    return True


def first_without_rows(record, columns):
    place = 0
    while has_rows(record, columns[:place + 1]):
        place += 1
    return place
