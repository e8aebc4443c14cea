"""A row's value, shredded into the entries of each column."""


class ColumnEntries:
    def __init__(self):
        self.total = 0
        self.numbers = []

    def add_gap(self, repetition, definition):
        self.total += 1
        self.numbers.append(repetition)
        self.numbers.append(definition)

    def add_literal(self, repetition, definition, signs):
        self.add_gap(repetition, definition)
        self.numbers.append(len(signs))
        self.numbers.extend(signs)


def shred(schema, value):
    columns = [ColumnEntries() for column in schema.columns]
    enter(schema.record, value, 0, columns)
    return columns


# Values nest no deeper than the schema's groups, so these two may call one another.
def enter(field, value, repetition, columns):
    if field.is_leaf():
        columns[field.first_column].add_literal(repetition, field.definition, value.signs)
        return
    for part, occurrences in zip(field.fields, value):
        if len(occurrences) == 0:
            enter_gap(part, repetition, field.definition, columns)
        else:
            enter_occurrences(part, occurrences, repetition, columns)


def enter_gap(field, repetition, definition, columns):
    for place in range(field.first_column, field.end_column):
        columns[place].add_gap(repetition, definition)


def enter_occurrences(field, occurrences, repetition, columns):
    enter(field, occurrences[0], repetition, columns)
    for value in occurrences[1:]:
        enter(field, value, field.repetition, columns)
