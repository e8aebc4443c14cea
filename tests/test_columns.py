import unittest

from helper import FAR, NESTED, NO_SUCH_COLUMN, SHAPES, ask, column, last, put, schema


def told(schema_text, count):
    return ask(schema(schema_text), *[column(number) for number in range(count)])[1:]


class TestColumn(unittest.TestCase):
    def test_first_example(self):
        self.assertEqual(told(SHAPES, 10), [
            [1, 32, 0, 0, 1, 1],
            [2, 20, 0, 1, 1, 2],
            [2, 8, 1, 1, 1, 3],
            [1, 16, 0, 1, 2, 4, 1],
            [1, 16, 0, 1, 2, 4, 2],
            [0, 0, 0, 1, 2, 5, 1],
            [1, 8, 0, 1, 3, 5, 2, 1],
            [2, 4, 1, 1, 2, 6, 1],
            [1, 32, 1, 2, 2, 6, 2],
            NO_SUCH_COLUMN,
        ])

    def test_second_example(self):
        self.assertEqual(told(NESTED, 4), [
            [2, 3, 1, 2, 2, 1, 2],
            [0, 0, 1, 1, 2, 3, 1],
            [1, 8, 1, 2, 2, 3, 2],
            NO_SUCH_COLUMN,
        ])

    def test_greatest_and_least_sizes(self):
        self.assertEqual(told("{1a!i2;2b!i64;3c!t1;999d!t999}", 4), [
            [1, 2, 0, 0, 1, 1], [1, 64, 0, 0, 1, 2], [2, 1, 0, 0, 1, 3], [2, 999, 0, 0, 1, 999],
        ])

    def test_levels_grow_along_the_path(self):
        self.assertEqual(told("{1a*{2b*{3c%{4k!b;5d?{6e*{7f*i9}}}}}}", 2), [
            [0, 0, 3, 3, 4, 1, 2, 3, 4],
            [1, 9, 5, 6, 6, 1, 2, 3, 5, 6, 7],
        ])
        self.assertEqual(told("{1a*{1a*{1a*{1a*{1a*{1a*b}}}}}}", 1), [[0, 0, 6, 6, 6, 1, 1, 1, 1, 1, 1]])

    def test_a_choice_adds_a_definition(self):
        self.assertEqual(told("{1a!<1b!<1c!b;2d!{1x!b;2y?b}>;9e!b>;2f*<1g!t5>;3h?<1i!b>}", 6), [
            [0, 0, 0, 2, 3, 1, 1, 1],
            [0, 0, 0, 2, 4, 1, 1, 2, 1],
            [0, 0, 0, 3, 4, 1, 1, 2, 2],
            [0, 0, 0, 1, 2, 1, 9],
            [2, 5, 1, 2, 2, 2, 1],
            [0, 0, 0, 2, 2, 3, 1],
        ])

    def test_a_default_changes_nothing(self):
        self.assertEqual(told("{1a!i8=5;2b!i8}", 2), [[1, 8, 0, 0, 1, 1], [1, 8, 0, 0, 1, 2]])

    def test_forty_columns(self):
        text = "{" + ";".join(f"{n}f{n}?t{n}" for n in range(1, 41)) + "}"
        self.assertEqual(told(text, 41), [[2, n, 0, 1, 1, n] for n in range(1, 41)] + [NO_SUCH_COLUMN])

    def test_rows_change_nothing(self):
        self.assertEqual(last(schema("{1a*b}"), put("{a:1,1}"), column(0)), [0, 0, 1, 1, 1, 1])

    def test_numbers_that_are_no_columns(self):
        for number in (-1, -2, 9, 10, 40, FAR, -FAR):
            with self.subTest(number=number):
                self.assertEqual(last(schema(SHAPES), column(number)), NO_SUCH_COLUMN)


if __name__ == "__main__":
    unittest.main()
