"""A schema's fields: their modes and kinds, their paths and levels, their columns."""

# The leaf kinds have the numbers that the call column answers.
BIT = 0
WHOLE = 1
TEXT = 2
RECORD = 3
CHOICE = 4

# The modes have the numbers of their signs.
ONCE = 33
KEYED = 37
MANY = 42
MAYBE = 63


class Field:
    def __init__(self, name, mode, path, repetition, definition):
        self.name = name
        self.mode = mode
        self.path = path
        self.repetition = repetition
        self.definition = definition
        self.kind = RECORD
        self.size = 0
        self.fields = []
        # The columns that this field is or has within it: from the first on, up to the end, without it.
        self.first_column = 0
        self.end_column = 0
        # The definition levels of the repeating fields on the path, the outermost first.
        self.repeating_levels = []

    def is_leaf(self):
        return self.kind != RECORD and self.kind != CHOICE


def is_repeating(mode):
    return mode == MANY or mode == KEYED


def outermost_record():
    return Field([], ONCE, [], 0, 0)


def field_within(parent, number, name, mode):
    repetition = parent.repetition
    definition = parent.definition
    if is_repeating(mode):
        repetition += 1
    # In a choice even a field that occurs once may not be the one taken, so its being there is told.
    if mode != ONCE or parent.kind == CHOICE:
        definition += 1
    field = Field(name, mode, parent.path + [number], repetition, definition)
    field.repeating_levels = parent.repeating_levels + ([definition] if is_repeating(mode) else [])
    return field
