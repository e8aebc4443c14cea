"""Schemas and rows made at random (from fixed seeds), looked at in ways that share nothing with the program."""

import random
import re
import unittest

from helper import ask, column, entries, entry_numbers, put, schema, show, text_answer

LITERALS = {
    "b": ["0", "1"],
    "i2": ["-2", "-1", "0", "1"],
    "i3": ["-4", "-3", "-2", "-1", "0", "1", "2", "3"],
    "t1": ['""', '"\\00"', '"\\22"', '"a"', '"\\ff"'],
    "t2": ['""', '"\\00"', '" "', '"!"', '"\\22"', '"\\22a"', '"#"', '"a"', '"a\\5c"', '"aa"', '"\\7f"', '"\\ff\\ff"'],
}
PATTERNS = {
    "b": "[01]",
    "i2": "(?:-[12]|[01])",
    "i3": "(?:-[1-4]|[0-3])",
    "t1": r'"(?:[ !#-\[\]-~]|\\(?:[01][0-9a-f]|22|5c|7f|[89a-f][0-9a-f]))?"',
    "t2": r'"(?:[ !#-\[\]-~]|\\(?:[01][0-9a-f]|22|5c|7f|[89a-f][0-9a-f])){0,2}"',
}
NAMES = ["a", "b", "ab", "a_", "a1", "zz", "b0"]


def random_group(source, depth, choice):
    numbers = sorted(source.sample(range(1, 30), source.randint(1, 4)))
    names = source.sample(NAMES, len(numbers))
    return [random_field(source, number, name, depth, choice) for number, name in zip(numbers, names)]


def random_field(source, number, name, depth, choice):
    """A field as (number, name, mode, kind, fields); of a leaf the fields are None."""
    kind = source.choice(list(LITERALS) + ["{", "{", "<"])
    if kind in LITERALS or depth == 4:
        kind = kind if kind in LITERALS else "b"
        return number, name, "!" if choice else source.choice("!?*"), kind, None
    fields = random_group(source, depth + 1, kind == "<")
    modes = "!?*"
    if kind == "{" and fields[0][2] == "!" and fields[0][4] is None:
        modes += "%%%"
    return number, name, "!" if choice else source.choice(modes), kind, fields


def group_text(kind, fields):
    inner = ";".join(f"{number}{name}{mode}{kind_text(kind, below)}" for number, name, mode, kind, below in fields)
    return kind + inner + {"{": "}", "<": ">"}[kind]


def kind_text(kind, fields):
    return kind if fields is None else group_text(kind, fields)


def random_value(source, kind, fields):
    """A literal's text, or a list of (name, occurrences) for the fields that have some."""
    if fields is None:
        return source.choice(LITERALS[kind])
    if kind == "<":
        taken = source.choice(fields)
        return [(taken[1], [random_value(source, taken[3], taken[4])])]
    value = []
    for number, name, mode, below_kind, below in fields:
        count = {"!": 1, "?": source.randint(0, 1)}.get(mode, source.randint(0, 3))
        occurrences = [random_value(source, below_kind, below) for _ in range(count)]
        if mode == "%":
            occurrences = with_rising_keys(source, below[0], occurrences)
        if occurrences:
            value.append((name, occurrences))
    return value


def with_rising_keys(source, key, occurrences):
    literals = LITERALS[key[3]]
    places = sorted(source.sample(range(len(literals)), min(len(literals), len(occurrences))))
    return [[(key[1], [literals[place]])] + value[1:] for place, value in zip(places, occurrences)]


def value_text(kind, fields, value):
    if fields is None:
        return value
    below = {field[1]: field for field in fields}
    inner = ";".join(
        name + ":" + ",".join(value_text(below[name][3], below[name][4], one) for one in occurrences)
        for name, occurrences in value
    )
    return kind + inner + {"{": "}", "<": ">"}[kind]


def leaf_paths(fields, above=()):
    for field in fields:
        if field[4] is None:
            yield above + (field,)
        else:
            yield from leaf_paths(field[4], above + (field,))


def levels(path):
    """For each field of a path its repetition and its definition level."""
    told = []
    repetition = definition = 0
    parent = "{"
    for field in path:
        repetition += field[2] in "*%"
        definition += field[2] in "?*%" or parent == "<"
        told.append((repetition, definition))
        parent = field[3]
    return told


def column_entries(path, value, repetition=0, above=0, at=0):
    """One column's entries of one row: only this column's path is followed down."""
    if at == len(path):
        return [(repetition, above, value)]
    own = levels(path)[at]
    occurrences = dict(value).get(path[at][1], [])
    if not occurrences:
        return [(repetition, above)]
    told = []
    for place, one in enumerate(occurrences):
        told += column_entries(path, one, own[0] if place else repetition, own[1], at + 1)
    return told


def row_pattern(kind, fields):
    """A regular expression for the texts of a kind's values, where no field has a key."""
    if fields is None:
        return PATTERNS[kind]
    parts = []
    for number, name, mode, below_kind, below in fields:
        one = row_pattern(below_kind, below)
        many = f"(?:,{one})*" if mode == "*" else ""
        parts.append((mode, f"{name}:{one}{many}"))
    if kind == "<":
        return "<(?:" + "|".join(part for mode, part in parts) + ")>"
    optional = {"!": ""}
    return r"\{" + "".join(rf"(?:{part}(?:;(?!\}})|(?=\}})))" + optional.get(mode, "?") for mode, part in parts) + r"\}"


def mutated(source, text):
    place = source.randrange(len(text) + 1)
    change = source.randrange(4)
    if change == 0:
        return text[:place] + text[place + 1:]
    if change == 1:
        return text[:place] + source.choice('{}<>;:,"\\-0123ab_1f') + text[place:]
    if change == 2:
        return text[:place] + source.choice('{}<>;:,"\\-0123ab_1f') + text[place + 1:]
    other = source.randrange(len(text) + 1)
    return text[:min(place, other)] + text[max(place, other):]


class TestRandom(unittest.TestCase):
    def test_entries_and_columns(self):
        source = random.Random(20)
        for _ in range(150):
            fields = random_group(source, 1, False)
            paths = list(leaf_paths(fields))
            if len(paths) > 40:
                continue
            values = [random_value(source, "{", fields) for _ in range(4)]
            texts = [value_text("{", fields, value) for value in values]
            calls = [schema(group_text("{", fields))] + [put(text) for text in texts]
            calls += [show(number) for number in range(4)]
            calls += [column(number) for number in range(len(paths))]
            calls += [entries(number, 1, 3) for number in range(len(paths))]
            expected = [[0], [0], [1], [2], [3]] + [text_answer(text) for text in texts]
            for path in paths:
                kind = path[-1][3]
                size = int(kind[1:] or 0)
                expected.append(["bit".index(kind[0]), size, *levels(path)[-1], len(path), *(f[0] for f in path)])
            for path in paths:
                told = [entry for value in values[1:] for entry in column_entries(path, value)]
                expected.append(entry_numbers(told))
            with self.subTest(schema=group_text("{", fields), rows=texts):
                self.assertEqual(ask(*calls), expected)

    def test_changed_row_texts(self):
        source = random.Random(21)
        seen = {True: 0, False: 0}
        while min(seen.values()) < 300:
            fields = random_group(source, 1, False)
            schema_text = group_text("{", fields)
            if "%" in schema_text or len(list(leaf_paths(fields))) > 40:
                continue
            pattern = re.compile(row_pattern("{", fields))
            text = value_text("{", fields, random_value(source, "{", fields))
            self.assertTrue(pattern.fullmatch(text))
            texts = [mutated(source, text) for _ in range(40)]
            answered = ask(schema(schema_text), *[put(text) for text in texts])[1:]
            for changed, answer in zip(texts, answered):
                taken = pattern.fullmatch(changed) is not None
                seen[taken] += 1
                with self.subTest(schema=schema_text, row=changed):
                    self.assertEqual(answer != [-1], taken)


if __name__ == "__main__":
    unittest.main()
