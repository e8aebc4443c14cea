"""Columns whose entries have no fault by themselves, assembled into rows' values."""

from shredcolumns.fields import CHOICE, KEYED, is_repeating
from shredcolumns.literals import has_literals
from shredcolumns.refusals import NoRows
from shredcolumns.rows import keys_rise


class Track:
    def __init__(self, column):
        self.field = column.field
        self.entries = column.entries
        self.position = 0

    def has_more(self):
        return self.position < len(self.entries)

    def goes_on(self, repetition):
        return self.has_more() and self.entries[self.position].repetition == repetition

    def reaches(self, definition):
        return self.entries[self.position].definition >= definition

    def take_literal(self):
        self.position += 1
        return self.entries[self.position - 1].literal


class Branch:
    def __init__(self, field, tracks, branches):
        self.field = field
        # Of the columns told those that the field is or has within it.
        self.tracks = tracks
        # One for each of the field's own fields; None where no column within it is told.
        self.branches = branches


def grow_branch(field, tracks):
    within = [track for track in tracks if field.first_column <= track.field.first_column < field.end_column]
    if len(within) == 0:
        return None
    return Branch(field, within, [grow_branch(part, within) for part in field.fields])


def assemble_rows(record, columns):
    tracks = [Track(column) for column in columns]
    branch = grow_branch(record, tracks)
    values = []
    while agreed([track.has_more() for track in tracks]):
        values.append(take_value(branch))
    return values


def agreed(said):
    for one in said:
        if one != said[0]:
            raise NoRows()
    return said[0]


# Values nest no deeper than the schema's groups, so these two may call one another.
def take_value(branch):
    if branch.field.is_leaf():
        return branch.tracks[0].take_literal()
    value = []
    for part in branch.branches:
        value.append([] if part is None else take_occurrences(part))
    if branch.field.kind == CHOICE:
        check_taken(branch, value)
    return value


def take_occurrences(branch):
    field = branch.field
    if not agreed([track.reaches(field.definition) for track in branch.tracks]):
        return take_gap(branch)
    occurrences = [take_value(branch)]
    if is_repeating(field.mode):
        while agreed([track.goes_on(field.repetition) for track in branch.tracks]):
            occurrences.append(take_value(branch))
    if field.mode == KEYED:
        check_keys(branch, occurrences)
    return occurrences


def take_gap(branch):
    for track in branch.tracks:
        track.position += 1
    return []


def check_taken(branch, value):
    taken = len([occurrences for occurrences in value if len(occurrences) > 0])
    # A field that isn't told may be the one taken.
    fewest = 0 if None in branch.branches else 1
    if taken < fewest or taken > 1:
        raise NoRows()


def check_keys(branch, occurrences):
    if branch.branches[0] is None:
        possible = has_literals(branch.field.fields[0], len(occurrences))
    else:
        possible = keys_rise(occurrences)
    if not possible:
        raise NoRows()
