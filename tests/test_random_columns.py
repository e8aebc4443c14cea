"""Columns changed at random (from fixed seeds), looked at in ways that share nothing with the program.

Of small schemas all rows up to a size are listed, and columns are right if a listed row has them. Of greater ones
each column tells by itself which occurrences there are of the fields on its path, and these are compared.
"""

import itertools
import random
import re
import unittest

from helper import ask, assemble, check, column_numbers, load, schema, show, text_answer, texts_answer
from test_random import (
    LITERALS, PATTERNS, column_entries, group_text, leaf_paths, levels, random_group, random_value, value_text,
)

COUNTS = {"b": 2, "i2": 4, "i3": 8, "t1": 257, "t2": 65793}


def frozen(fields):
    """Fields in tuples alone, so that a path may be a dict's key."""
    return fields and tuple(field[:4] + (frozen(field[4]),) for field in fields)


def key_order(literal):
    """A literal of any of these kinds as what it is ordered by."""
    if not literal.startswith('"'):
        return int(literal)
    told = re.sub(r"\\(..)", lambda found: chr(int(found[1], 16)), literal[1:-1])
    return told.encode("latin-1")


# The fields of small schemas: number, name, mode, kind, fields within.
BIT = "b"
SMALL = [
    [(1, "a", "*", "{", [(1, "c", "?", BIT, None), (2, "d", "?", BIT, None)])],
    [(1, "a", "?", "{", [(1, "c", "*", BIT, None), (2, "d", "!", BIT, None)]), (2, "e", "?", BIT, None)],
    [(1, "a", "%", "{", [(1, "k", "!", BIT, None), (2, "v", "?", BIT, None), (3, "w", "!", BIT, None)])],
    [(1, "a", "*", "{", [(1, "c", "%", "{", [(1, "k", "!", BIT, None), (2, "v", "?", BIT, None)])])],
    [(1, "a", "!", "<", [(1, "c", "!", BIT, None), (2, "d", "!", BIT, None)]), (2, "e", "*", BIT, None)],
    [(1, "a", "*", "<", [(1, "c", "!", BIT, None),
                         (2, "d", "!", "{", [(1, "f", "?", BIT, None), (2, "g", "?", BIT, None)])])],
    [(1, "a", "?", "<", [(1, "c", "!", "<", [(1, "d", "!", BIT, None), (2, "e", "!", BIT, None)]),
                         (2, "f", "!", BIT, None)])],
    [(1, "a", "*", "{", [(1, "c", "*", "{", [(1, "d", "?", BIT, None)]), (2, "e", "?", BIT, None)])],
    [(1, "a", "!", "{", [(1, "c", "!", "{", [(1, "d", "?", BIT, None), (2, "e", "*", BIT, None)])])],
    [(1, "a", "*", "<", [(1, "c", "!", BIT, None)]), (2, "d", "?", "<", [(1, "e", "!", BIT, None)])],
]
MOST_OCCURRENCES = 2


def all_values(kind, fields):
    if fields is None:
        return LITERALS[kind]
    if kind == "<":
        return [[(name, [one])] for number, name, mode, below, inner in fields for one in all_values(below, inner)]
    lists = []
    for number, name, mode, below, inner in fields:
        fewest, most = {"!": (1, 1), "?": (0, 1)}.get(mode, (0, MOST_OCCURRENCES))
        values = all_values(below, inner)
        found = [list(told) for count in range(fewest, most + 1) for told in itertools.product(values, repeat=count)]
        if mode == "%":
            found = [told for told in found if rising([key_order(dict(one)[inner[0][1]][0]) for one in told])]
        lists.append([(name, told) for told in found])
    return [[part for part in value if part[1]] for value in itertools.product(*lists)]


def rising(keys):
    return all(before < behind for before, behind in zip(keys, keys[1:]))


def row_parts(told):
    """A column's entries, those of each row by themselves."""
    parts = []
    for entry in told:
        if entry[0] == 0:
            parts.append([])
        parts[-1].append(entry)
    return parts


def entry_fault(paths, columns):
    for place, (path, told) in enumerate(zip(paths, columns)):
        repetition, definition = levels(path)[-1]
        lists = [level[1] for level, field in zip(levels(path), path) if field[2] in "*%"]
        for entry_place, entry in enumerate(told):
            if entry[0] > repetition or entry[1] > definition:
                return [1, place, entry_place]
            if len(entry) == 3 and not re.fullmatch(PATTERNS[path[-1][3]], entry[2]):
                return [2, place, entry_place]
            if entry_place == 0 and entry[0] != 0:
                return [3, place, entry_place]
            if entry[0] and min(entry[1], told[entry_place - 1][1]) < lists[entry[0] - 1]:
                return [4, place, entry_place]
    return None


def occurrences_told(path, told):
    """For each depth of the path, from 0 (the row) on: the addresses of the values there, each with its literal."""
    found = [{} for _ in range(len(path) + 1)]
    counters = []
    row = -1
    for entry in told:
        if entry[0] == 0:
            row += 1
            counters = []
        else:
            counters = counters[:entry[0] - 1] + [counters[entry[0] - 1] + 1]
        counters += [0] * (6 - len(counters))
        found[0][(row,)] = None
        for depth, (repetition, definition) in enumerate(levels(path), start=1):
            if entry[1] >= definition:
                last_one = depth == len(path)
                found[depth][(row, *counters[:repetition])] = entry[2] if last_one else None
    return found


def have_rows(paths, columns):
    """Whether there are rows, sentence by sentence as the document tells it."""
    found = [occurrences_told(path, told) for path, told in zip(paths, columns)]
    at = {}
    for path, told in zip(paths, found):
        for depth, addresses in enumerate(told):
            at.setdefault(path[:depth], []).append(addresses)
    if any(set(addresses) != set(several[0]) for several in at.values() for addresses in several):
        return False
    told_fields = {path: several[0] for path, several in at.items()}
    return all(choice_fine(path, told_fields) and keys_fine(path, told_fields) for path in told_fields if path)


def choice_fine(path, told_fields):
    if path[-1][3] != "<":
        return True
    inner = [path + (field,) for field in path[-1][4]]
    told = [told_fields[field] for field in inner if field in told_fields]
    for address in told_fields[path]:
        taken = sum(address in addresses for addresses in told)
        if taken > 1 or (taken == 0 and len(told) == len(inner)):
            return False
    return True


def keys_fine(path, told_fields):
    if path[-1][2] != "%":
        return True
    key = path[-1][4][0]
    lists = {}
    for address in sorted(told_fields[path]):
        lists.setdefault(address[:-1], []).append(address)
    if path + (key,) not in told_fields:
        return all(len(told) <= COUNTS[key[3]] for told in lists.values())
    literals = told_fields[path + (key,)]
    return all(rising([key_order(literals[address]) for address in told]) for told in lists.values())


def first_fault(paths, columns):
    fault = entry_fault(paths, columns)
    if fault:
        return fault
    for place in range(len(paths)):
        if not have_rows(paths[:place + 1], columns[:place + 1]):
            return [5, place, 0]
    return [0, sum(entry[0] == 0 for entry in columns[0]), 0]


def left(fields, value, told, above=()):
    """What the columns with these paths leave of a value."""
    if fields is None:
        return value
    kept = []
    for field in fields:
        path = above + (field,)
        occurrences = dict(value).get(field[1], [])
        if occurrences and any(one[:len(path)] == path for one in told):
            kept.append((field[1], [left(field[4], one, told, path) for one in occurrences]))
    return kept


def changed(source, paths, columns):
    """The columns with one entry changed, left out, doubled or put in, or two columns' entries mixed."""
    columns = [list(told) for told in columns]
    place = source.randrange(len(columns))
    told = columns[place]
    repetition, definition = levels(paths[place])[-1]
    if not told:
        return columns
    at = source.randrange(len(told))
    way = source.randrange(6)
    if way == 0:
        del told[at]
    elif way == 1:
        told.insert(at, told[at])
    elif way == 2:
        told[at] = (max(0, told[at][0] + source.choice((-1, 1))),) + told[at][1:]
    elif way == 3:
        new = source.randint(0, definition)
        literal = (source.choice(LITERALS[paths[place][-1][3]]),) if new == definition else ()
        told[at] = (told[at][0], new) + literal
    elif way == 4:
        new = source.randint(0, definition + source.choice((0, 0, 0, 1)))
        literal = (source.choice(LITERALS[paths[place][-1][3]] + ["", "2"] * source.randint(0, 1)),)
        told.insert(at, (source.randint(0, repetition), new) + (literal if new == definition else ()))
    else:
        other = source.randrange(len(told))
        told[at], told[other] = told[other], told[at]
    return columns


def some_paths(source, paths):
    numbers = sorted(source.sample(range(len(paths)), source.randint(1, len(paths))))
    return numbers, [paths[number] for number in numbers]


class TestSmall(unittest.TestCase):
    def test_against_all_rows(self):
        source = random.Random(30)
        for fields in SMALL:
            paths = list(leaf_paths(fields))
            values = all_values("{", fields)
            listed = [[tuple(column_entries(path, value)) for path in paths] for value in values]
            seen = dict.fromkeys(range(6), 0)
            for numbers in itertools.chain.from_iterable(
                    itertools.combinations(range(len(paths)), count) for count in range(1, len(paths) + 1)):
                projected = [{tuple(row[number] for number in numbers[:count]) for row in listed}
                             for count in range(len(numbers) + 1)]
                self.compare(source, fields, numbers, [paths[number] for number in numbers], listed, projected, seen)
            self.assertTrue(seen[0] and seen[5], (fields, seen))

    def compare(self, source, fields, numbers, paths, listed, projected, seen):
        calls, expected, handed = [], [], []
        for _ in range(100):
            rows = [source.choice(listed) for _ in range(source.randint(0, 2))]
            columns = [[entry for row in rows for entry in row[number]] for number in numbers]
            for _ in range(source.randint(0, 2)):
                columns = changed(source, paths, columns)
            if max(len(told) for told in columns) > 4 or self.too_long(paths, columns):
                continue
            told = entry_fault(paths, columns) or self.expected(columns, projected)
            calls.append(check(numbers, column_numbers(*columns)))
            handed.append(columns)
            expected.append(told)
            seen[told[0]] += 1
        answered = ask(schema(group_text("{", fields)), *calls)[1:]
        for columns, answer, told in zip(handed, answered, expected):
            with self.subTest(schema=group_text("{", fields), numbers=numbers, columns=columns):
                self.assertEqual(answer, told)

    def too_long(self, paths, columns):
        """Whether a list is longer than those that were listed, though its keys don't forbid it."""
        for path, told in zip(paths, columns):
            for depth, field in enumerate(path):
                if field[2] != "*" or entry_fault([path], [told]):
                    continue
                places = occurrences_told(path, told)[depth + 1]
                if any(address[-1] >= MOST_OCCURRENCES for address in places):
                    return True
        return False

    def expected(self, columns, projected):
        for count in range(1, len(columns) + 1):
            parts = [row_parts(told) for told in columns[:count]]
            if len({len(part) for part in parts}) > 1:
                return [5, count - 1, 0]
            for row in zip(*parts):
                if tuple(tuple(told) for told in row) not in projected[count]:
                    return [5, count - 1, 0]
        return [0, sum(entry[0] == 0 for entry in columns[0]), 0]


class TestGreat(unittest.TestCase):
    def columns_of(self, paths, values):
        return [[entry for value in values for entry in column_entries(path, value)] for path in paths]

    def test_changed_columns(self):
        source = random.Random(31)
        seen = dict.fromkeys(range(6), 0)
        while min(seen.values()) < 150:
            fields = frozen(random_group(source, 1, False))
            every = list(leaf_paths(fields))
            if len(every) > 40:
                continue
            calls, expected = [], []
            for _ in range(15):
                numbers, paths = some_paths(source, every)
                columns = self.columns_of(paths, [random_value(source, "{", fields) for _ in range(3)])
                for _ in range(source.randint(0, 2)):
                    columns = changed(source, paths, columns)
                calls.append(check(numbers, column_numbers(*columns)))
                expected.append(first_fault(paths, columns))
                seen[expected[-1][0]] += 1
            with self.subTest(schema=group_text("{", fields)):
                self.assertEqual(ask(schema(group_text("{", fields)), *calls)[1:], expected)

    def test_assembled_again(self):
        source = random.Random(32)
        for _ in range(150):
            fields = frozen(random_group(source, 1, False))
            every = list(leaf_paths(fields))
            if len(every) > 40:
                continue
            values = [random_value(source, "{", fields) for _ in range(3)]
            texts = [value_text("{", fields, value) for value in values]
            handed = column_numbers(*self.columns_of(every, values))
            numbers, paths = some_paths(source, every)
            some = column_numbers(*self.columns_of(paths, values))
            some_texts = [value_text("{", fields, left(fields, value, paths)) for value in values]
            answered = ask(schema(group_text("{", fields)), check(range(len(every)), handed),
                           assemble(range(len(every)), handed), assemble(numbers, some), load(handed),
                           show(0), show(1), show(2))
            with self.subTest(schema=group_text("{", fields), rows=texts, numbers=numbers):
                self.assertEqual(answered[1:], [[0, 3, 0], texts_answer(*texts), texts_answer(*some_texts), [3]]
                                 + [text_answer(text) for text in texts])


if __name__ == "__main__":
    unittest.main()
