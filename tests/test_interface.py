import unittest

from helper import NESTED, NESTED_ROWS, SHAPES, SHAPES_ROW, column, entries, line, put, rows, schema, show, split
from shredcolumns.desk import answers
from shredcolumns.refusals import UnknownCall

MIXED = line([
    rows(), schema("{"), schema("{1a!b}"), put("{a:1}"), put("{a:"), rows(), show(0), show(1), column(0), column(1),
    entries(0, 0, 1), entries(1, 5, 5), entries(0, 0, 2), schema(""), rows(),
])
MIXED_ANSWERS = [
    1, -2,
    1, -1,
    1, 0,
    1, 0,
    1, -1,
    1, 1,
    6, 5, 123, 97, 58, 49, 125,
    1, -3,
    6, 0, 0, 0, 0, 1, 1,
    1, -4,
    5, 1, 0, 0, 1, 49,
    1, -4,
    1, -3,
    1, -1,
    1, 1,
]


class TestAnswers(unittest.TestCase):
    def test_several_calls_in_one_list(self):
        self.assertEqual(answers(MIXED), MIXED_ANSWERS)

    def test_written_out(self):
        calls = [0, 6, 123, 49, 97, 33, 98, 125, 1, 5, 123, 97, 58, 49, 125, 2, 3, 0, 4, 0, 5, 0, 0, 1]
        self.assertEqual(answers(calls), [
            1, 0, 1, 0, 1, 1, 6, 5, 123, 97, 58, 49, 125, 6, 0, 0, 0, 0, 1, 1, 5, 1, 0, 0, 1, 49,
        ])

    def test_empty_texts_take_no_numbers(self):
        self.assertEqual(answers([0, 0, 1, 0, 2]), [1, -1, 1, -2, 1, -2])

    def test_one_call(self):
        self.assertEqual(answers([2]), [1, -2])
        self.assertEqual(answers(schema("{1a!b}")), [1, 0])

    def test_a_number_that_is_no_call(self):
        for number in (-1, 11):
            with self.subTest(number=number), self.assertRaises(UnknownCall):
                answers([number])

    def test_the_list_handed_in_is_not_changed(self):
        calls = list(MIXED)
        answers(calls)
        self.assertEqual(calls, MIXED)

    def test_a_second_time_answers_as_the_first(self):
        calls = list(MIXED)
        first = answers(calls)
        first_copy = list(first)
        self.assertEqual(answers(calls), first_copy)
        self.assertEqual(first, first_copy)

    def test_nothing_is_kept_from_one_time_to_the_next(self):
        answers(line([schema("{1a!b}"), put("{a:1}")]))
        self.assertEqual(answers(line([rows(), show(0)])), [1, -2, 1, -2])
        self.assertEqual(answers(line([schema("{1a!b}"), rows()])), [1, 0, 1, 0])

    def test_what_is_given_back_may_be_changed(self):
        calls = line([schema("{1a!b}"), put("{a:1}"), show(0)])
        first = answers(calls)
        first.clear()
        self.assertEqual(answers(calls), [1, 0, 1, 0, 6, 5, 123, 97, 58, 49, 125])

    def test_answers_are_lists_of_whole_numbers(self):
        calls = [schema(SHAPES), put(SHAPES_ROW), rows(), show(0)]
        calls += [call for number in range(10) for call in (column(number), entries(number, 0, 1))]
        calls += [schema(NESTED)] + [put(text) for text in NESTED_ROWS] + [entries(0, 0, 3), show(-1)]
        given = answers(line(calls))
        self.assertIs(type(given), list)
        self.assertEqual({type(number) for number in given}, {int})

    def test_longest_line(self):
        text = "{a:" + ",".join(["{}"] * 1200) + "}"
        wide = "{1a*{" + ";".join(f"{n}f{n}?b" for n in range(1, 41)) + "}}"
        calls = [schema(wide)] + [put(text)] * 4
        calls += [entries(number % 40, 0, 4) for number in range(235)]
        handed = line(calls)
        self.assertLessEqual(len(handed), 16000)
        parts = split(answers(handed))
        self.assertEqual(len(parts), 240)
        one_row = [0, 1] + [1, 1] * 1199
        self.assertTrue(all(part == [4800] + one_row * 4 for part in parts[5:]))


if __name__ == "__main__":
    unittest.main()
