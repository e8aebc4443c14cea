"""Calls written as lists of numbers, and their answers taken apart again."""

import unittest

from shredcolumns.desk import answers

WRONG_TEXT = [-1]
NO_SCHEMA = [-2]
NO_SUCH_ROW = [-3]
NO_SUCH_COLUMN = [-4]
TOO_MANY_ROWS = [-5]
TOO_MANY_ENTRIES = [-6]
WRONG_ENTRIES = [-7]
FAULTY = [-1]

FAR = 10 ** 18

# The document's examples.
SHAPES = (
    "{1id!i32;2name?t20;3tags*t8;4pos?{1x!i16=0;2y!i16};"
    "5shape!<1dot!b;2line!{1len!i8}>;6attr%{1key!t4;2val?i32}}"
)
SHAPES_ROW = '{id:5;tags:"a","b\\22";pos:{x:-1;y:2};shape:<line:{len:7}>;attr:{key:"a"},{key:"b";val:3}}'
NESTED = "{1a?{2b*t3};3c*{1d!b;2e?i8}}"
NESTED_ROWS = ('{a:{b:"x","y"};c:{d:1},{d:0;e:5}}', "{}", "{a:{}}")
NESTED_COLUMNS = (
    [(0, 2, '"x"'), (1, 2, '"y"'), (0, 0), (0, 1)],
    [(0, 1, "1"), (1, 1, "0"), (0, 0), (0, 0)],
    [(0, 1), (1, 2, "5"), (0, 0), (0, 0)],
)


def signs(text):
    if isinstance(text, str):
        return list(text.encode("latin-1"))
    return list(text)


def with_length(numbers):
    return [len(numbers)] + numbers


def schema(text):
    return [0] + with_length(signs(text))


def put(text):
    return [1] + with_length(signs(text))


def rows():
    return [2]


def show(row):
    return [3, row]


def column(number):
    return [4, number]


def entries(number, first, count):
    return [5, number, first, count]


def check(numbers, handed):
    return [6] + with_length(list(numbers)) + with_length(handed)


def assemble(numbers, handed):
    return [7] + with_length(list(numbers)) + with_length(handed)


def load(handed):
    return [8] + with_length(handed)


def add(handed):
    return [9] + with_length(handed)


def drop(row):
    return [10, row]


def line(calls):
    return [number for call in calls for number in call]


def split(answered):
    parts = []
    place = 0
    while place < len(answered):
        length = answered[place]
        part = answered[place + 1:place + 1 + length]
        assert length >= 1 and len(part) == length, answered
        parts.append(part)
        place += 1 + length
    return parts


def ask(*calls):
    """The answers of the calls, a list each."""
    parts = split(answers(line(calls)))
    assert len(parts) == len(calls)
    return parts


def last(*calls):
    return ask(*calls)[-1]


def text_answer(text):
    return with_length(signs(text))


def entry_numbers(told):
    """Entries (repetition, definition) or (repetition, definition, literal) as the answer of entries."""
    numbers = [len(told)]
    for entry in told:
        numbers += entry[:2]
        if len(entry) == 3:
            numbers += with_length(signs(entry[2]))
    return numbers


def column_numbers(*columns):
    """The entries of several columns as numbers, as they are handed in."""
    return [number for told in columns for number in entry_numbers(told)]


def texts_answer(*texts):
    """The answer of assemble."""
    return [len(texts)] + [number for text in texts for number in text_answer(text)]


class FaultCase(unittest.TestCase):
    def first(self, schema_text, numbers, columns):
        return last(schema(schema_text), check(numbers, column_numbers(*columns)))

    def fault(self, kind, column_place, entry_place, schema_text, numbers, *columns):
        with self.subTest(schema=schema_text, columns=columns):
            self.assertEqual(self.first(schema_text, numbers, columns), [kind, column_place, entry_place])
            self.assertEqual(last(schema(schema_text), assemble(numbers, column_numbers(*columns))), FAULTY)

    def fine(self, count, schema_text, numbers, *columns):
        with self.subTest(schema=schema_text, columns=columns):
            self.assertEqual(self.first(schema_text, numbers, columns), [0, count, 0])
