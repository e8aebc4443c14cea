import unittest

from helper import (
    FAR, NESTED, NESTED_ROWS, NO_SUCH_COLUMN, NO_SUCH_ROW, SHAPES, SHAPES_ROW,
    ask, entries, entry_numbers, last, put, rows, schema, show, text_answer,
)


class EntryCase(unittest.TestCase):
    def told(self, schema_text, row_texts, expected):
        """Looks at the entries of all rows, for each column from the first on."""
        calls = [schema(schema_text)] + [put(text) for text in row_texts]
        for number, column_entries in enumerate(expected):
            with self.subTest(column=number):
                self.assertEqual(last(*calls, entries(number, 0, len(row_texts))), entry_numbers(column_entries))
        self.assertEqual(last(*calls, entries(len(expected), 0, 0)), NO_SUCH_COLUMN)


class TestEntries(EntryCase):
    def test_second_example(self):
        self.told(NESTED, NESTED_ROWS, [
            [(0, 2, '"x"'), (1, 2, '"y"'), (0, 0), (0, 1)],
            [(0, 1, "1"), (1, 1, "0"), (0, 0), (0, 0)],
            [(0, 1), (1, 2, "5"), (0, 0), (0, 0)],
        ])

    def test_second_example_as_numbers(self):
        calls = [schema(NESTED)] + [put(text) for text in NESTED_ROWS]
        answered = ask(*calls, entries(0, 0, 3), entries(1, 0, 3), entries(2, 0, 3))[4:]
        self.assertEqual(answered, [
            [4, 0, 2, 3, 34, 120, 34, 1, 2, 3, 34, 121, 34, 0, 0, 0, 1],
            [4, 0, 1, 1, 49, 1, 1, 1, 48, 0, 0, 0, 0],
            [4, 0, 1, 1, 2, 1, 53, 0, 0, 0, 0],
        ])

    def test_first_example(self):
        self.told(SHAPES, [SHAPES_ROW], [
            [(0, 0, "5")],
            [(0, 0)],
            [(0, 1, '"a"'), (1, 1, '"b\\22"')],
            [(0, 1, "-1")],
            [(0, 1, "2")],
            [(0, 0)],
            [(0, 1, "7")],
            [(0, 1, '"a"'), (1, 1, '"b"')],
            [(0, 1), (1, 2, "3")],
        ])

    def test_a_missing_group_gives_each_of_its_columns_a_gap(self):
        self.told("{1a?{1b?{1c!b;2d*b};2e?b};2f!b}", ["{f:1}", "{a:{};f:0}", "{a:{b:{c:1}};f:0}"], [
            [(0, 0), (0, 1), (0, 2, "1")],
            [(0, 0), (0, 1), (0, 2)],
            [(0, 0), (0, 1), (0, 1)],
            [(0, 0, "1"), (0, 0, "0"), (0, 0, "0")],
        ])

    def test_lists_in_lists(self):
        self.told("{1a*{1b*{1c*i8;2d?b}}}", [
            "{a:{b:{c:1,2},{c:3}},{},{b:{d:1}}}",
            "{a:{},{b:{},{c:4}}}",
        ], [
            [(0, 3, "1"), (3, 3, "2"), (2, 3, "3"), (1, 1), (1, 2), (0, 1), (1, 2), (2, 3, "4")],
            [(0, 2), (2, 2), (1, 1), (1, 3, "1"), (0, 1), (1, 2), (2, 2)],
        ])

    def test_a_first_occurrence_keeps_the_outer_repetition(self):
        self.told("{1a*{1x!b;2b*b}}", ["{a:{x:1;b:0,0},{x:0;b:1,1}}"], [
            [(0, 1, "1"), (1, 1, "0")],
            [(0, 2, "0"), (2, 2, "0"), (1, 2, "1"), (2, 2, "1")],
        ])

    def test_choices(self):
        self.told("{1a*<1b!b;2c!{1d?i8;2e!i8};3f!<1g!b;2h!b>>}", [
            "{a:<b:1>,<c:{e:5}>,<c:{d:-6;e:7}>,<f:<h:0>>}", "{}",
        ], [
            [(0, 2, "1"), (1, 1), (1, 1), (1, 1), (0, 0)],
            [(0, 1), (1, 2), (1, 3, "-6"), (1, 1), (0, 0)],
            [(0, 1), (1, 2, "5"), (1, 2, "7"), (1, 1), (0, 0)],
            [(0, 1), (1, 1), (1, 1), (1, 2), (0, 0)],
            [(0, 1), (1, 1), (1, 1), (1, 3, "0"), (0, 0)],
        ])

    def test_keyed_lists(self):
        self.told("{1a%{1k!i8;2v*b}}", ["{a:{k:-1},{k:2;v:1,0}}", "{}"], [
            [(0, 1, "-1"), (1, 1, "2"), (0, 0)],
            [(0, 1), (1, 2, "1"), (2, 2, "0"), (0, 0)],
        ])

    def test_empty_texts_are_literals(self):
        self.told("{1a*t3}", ['{a:"","\\00"}'], [[(0, 1, '""'), (1, 1, '"\\00"')]])

    def test_literals_without_levels(self):
        self.told("{1a!b;2c!{1d!t3}}", ['{a:0;c:{d:"~"}}', '{a:1;c:{d:""}}'], [
            [(0, 0, "0"), (0, 0, "1")],
            [(0, 0, '"~"'), (0, 0, '""')],
        ])

    def test_six_deep(self):
        self.told("{1a*{1a*{1a*{1a*{1a*{1a*b}}}}}}", ["{a:{a:{a:{a:{a:{a:1,1},{a:0}},{}}}},{}}"], [
            [(0, 6, "1"), (6, 6, "1"), (5, 6, "0"), (4, 4), (1, 1)],
        ])

    def test_a_long_list(self):
        count = 1990
        text = "{a:" + ",".join(["1"] * count) + "}"
        self.told("{1a*b}", [text], [[(0, 1, "1")] + [(1, 1, "1")] * (count - 1)])


class TestFromAndCount(unittest.TestCase):
    CALLS = [schema("{1a*i8}"), put("{a:1,2}"), put("{}"), put("{a:3}")]
    ROWS = [[(0, 1, "1"), (1, 1, "2")], [(0, 0)], [(0, 1, "3")]]

    def test_every_stretch(self):
        for first in range(4):
            for count in range(4 - first):
                expected = [entry for row in self.ROWS[first:first + count] for entry in row]
                with self.subTest(first=first, count=count):
                    self.assertEqual(last(*self.CALLS, entries(0, first, count)), entry_numbers(expected))

    def test_no_rows(self):
        self.assertEqual(ask(schema("{1a*i8}"), entries(0, 0, 0), entries(0, 0, 1), entries(0, 1, 0)),
                         [[0], [0], NO_SUCH_ROW, NO_SUCH_ROW])

    def test_behind_the_last_row(self):
        self.assertEqual(last(*self.CALLS, entries(0, 3, 0)), [0])
        for first, count in ((0, 4), (1, 3), (3, 1), (4, 0), (2, 2), (FAR, 0), (0, FAR), (FAR, FAR)):
            with self.subTest(first=first, count=count):
                self.assertEqual(last(*self.CALLS, entries(0, first, count)), NO_SUCH_ROW)

    def test_below_zero(self):
        for first, count in ((-1, 1), (-1, 0), (-1, 2), (0, -1), (1, -1), (3, -1), (-1, -1), (5, -3), (-3, 5),
                             (-FAR, FAR), (FAR, -FAR), (-FAR, -FAR)):
            with self.subTest(first=first, count=count):
                self.assertEqual(last(*self.CALLS, entries(0, first, count)), NO_SUCH_ROW)

    def test_no_column(self):
        for number in (-1, 1, 2, 40, FAR, -FAR):
            with self.subTest(number=number):
                self.assertEqual(last(*self.CALLS, entries(number, 0, 3)), NO_SUCH_COLUMN)

    def test_the_column_is_looked_at_before_the_rows(self):
        for number in (-1, 1, FAR, -FAR):
            for first, count in ((-1, 0), (0, -1), (0, 4), (4, 0), (FAR, FAR)):
                with self.subTest(number=number, first=first, count=count):
                    self.assertEqual(last(*self.CALLS, entries(number, first, count)), NO_SUCH_COLUMN)

    def test_a_refusal_changes_nothing(self):
        answered = ask(*self.CALLS, entries(1, 0, 3), entries(0, 0, 4), entries(0, -1, 1), rows(), show(0),
                       entries(0, 0, 2))
        self.assertEqual(answered[4:], [NO_SUCH_COLUMN, NO_SUCH_ROW, NO_SUCH_ROW, [3], text_answer("{a:1,2}"),
                                        entry_numbers([(0, 1, "1"), (1, 1, "2"), (0, 0)])])


if __name__ == "__main__":
    unittest.main()
