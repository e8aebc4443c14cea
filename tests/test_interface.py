import unittest

from helper import (
    NESTED, NESTED_COLUMNS, NESTED_ROWS, SHAPES, SHAPES_ROW,
    add, assemble, ask, check, column, column_numbers, drop, entries, line, load, put, rows, schema, show, split,
)
from shredcolumns.desk import answers
from shredcolumns.refusals import UnknownCall

MIXED = line([
    rows(), schema("{"), schema("{1a!b}"), put("{a:1}"), put("{a:"), rows(), show(0), show(1), column(0), column(1),
    entries(0, 0, 1), entries(1, 5, 5), entries(0, 0, 2), schema(""), rows(),
    check([0], [1, 0, 0, 1, 48]), check([0], [1, 0, 0, 1, 50]), check([], []), check([0], [2, 0, 0, 1, 48]),
    assemble([0], [2, 0, 0, 1, 48, 0, 0, 1, 49]), assemble([1], []), assemble([0], [1, 1, 0, 1, 49]),
    add([1, 0, 0, 1, 48]), add([]), show(1), drop(0), drop(1), show(0), load([0]), load([0, 0]), rows(),
    load([1001] + [0, 0, 0] * 1001), drop(-1), rows(),
])
MIXED_ANSWERS = [
    1, -2,
    1, -1,
    1, 0,
    1, 0,
    1, -1,
    1, 1,
    6, 5, 123, 97, 58, 49, 125,
    1, -3,
    6, 0, 0, 0, 0, 1, 1,
    1, -4,
    5, 1, 0, 0, 1, 49,
    1, -4,
    1, -3,
    1, -1,
    1, 1,
    3, 0, 1, 0,
    3, 2, 0, 0,
    1, -4,
    1, -7,
    13, 2, 5, 123, 97, 58, 48, 125, 5, 123, 97, 58, 49, 125,
    1, -4,
    1, -1,
    1, 2,
    1, -7,
    6, 5, 123, 97, 58, 48, 125,
    1, 0,
    1, -3,
    6, 5, 123, 97, 58, 48, 125,
    1, 0,
    1, -7,
    1, 0,
    1, -6,
    1, -3,
    1, 0,
]


class TestAnswers(unittest.TestCase):
    def test_several_calls_in_one_list(self):
        self.assertEqual(answers(MIXED), MIXED_ANSWERS)

    def test_written_out(self):
        calls = [0, 6, 123, 49, 97, 33, 98, 125, 1, 5, 123, 97, 58, 49, 125, 2, 3, 0, 4, 0, 5, 0, 0, 1]
        self.assertEqual(answers(calls), [
            1, 0, 1, 0, 1, 1, 6, 5, 123, 97, 58, 49, 125, 6, 0, 0, 0, 0, 1, 1, 5, 1, 0, 0, 1, 49,
        ])

    def test_empty_texts_take_no_numbers(self):
        self.assertEqual(answers([0, 0, 1, 0, 2]), [1, -1, 1, -2, 1, -2])
        self.assertEqual(answers([0, 6, 123, 49, 97, 33, 98, 125, 6, 0, 0, 7, 0, 0, 8, 0, 9, 0, 2]),
                         [1, 0, 1, -4, 1, -4, 1, -7, 1, -7, 1, 0])

    def test_refused_calls_are_passed_over_whole(self):
        # What stands in these lists would be calls itself, if it were read as such.
        lists = [0, 2, 2, 2, 3, 0, 10, 0]
        calls = [check(lists, lists), assemble(lists, lists), load(lists), add(lists), put(lists)]
        self.assertEqual(ask(*calls, rows()), [[-2]] * 6)
        self.assertEqual(ask(schema("{1a!b}"), *calls, rows()), [[0], [-4], [-4], [-7], [-7], [-1], [0]])

    def test_one_call(self):
        self.assertEqual(answers([2]), [1, -2])
        self.assertEqual(answers(schema("{1a!b}")), [1, 0])

    def test_a_number_that_is_no_call(self):
        for number in (-1, 11):
            with self.subTest(number=number), self.assertRaises(UnknownCall):
                answers([number])

    def test_the_list_handed_in_is_not_changed(self):
        calls = list(MIXED)
        answers(calls)
        self.assertEqual(calls, MIXED)

    def test_a_second_time_answers_as_the_first(self):
        calls = list(MIXED)
        first = answers(calls)
        first_copy = list(first)
        self.assertEqual(answers(calls), first_copy)
        self.assertEqual(first, first_copy)

    def test_nothing_is_kept_from_one_time_to_the_next(self):
        answers(line([schema("{1a!b}"), put("{a:1}")]))
        self.assertEqual(answers(line([rows(), show(0)])), [1, -2, 1, -2])
        self.assertEqual(answers(line([schema("{1a!b}"), rows()])), [1, 0, 1, 0])

    def test_what_is_given_back_may_be_changed(self):
        calls = line([schema("{1a!b}"), put("{a:1}"), show(0)])
        first = answers(calls)
        first.clear()
        self.assertEqual(answers(calls), [1, 0, 1, 0, 6, 5, 123, 97, 58, 49, 125])

    def test_answers_are_lists_of_whole_numbers(self):
        calls = [schema(SHAPES), put(SHAPES_ROW), rows(), show(0)]
        calls += [call for number in range(10) for call in (column(number), entries(number, 0, 1))]
        calls += [schema(NESTED)] + [put(text) for text in NESTED_ROWS] + [entries(0, 0, 3), show(-1)]
        handed = column_numbers(*NESTED_COLUMNS)
        calls += [check([0, 1, 2], handed), assemble([0, 1, 2], handed), load(handed), add(handed), drop(0)]
        calls += [check([0], [1, 9, 9]), check([0, 1], [0, 1, 0, 0])]
        given = answers(line(calls))
        self.assertIs(type(given), list)
        self.assertEqual({type(number) for number in given}, {int})

    def test_longest_line(self):
        text = "{a:" + ",".join(["{}"] * 1200) + "}"
        wide = "{1a*{" + ";".join(f"{n}f{n}?b" for n in range(1, 41)) + "}}"
        calls = [schema(wide)] + [put(text)] * 4
        calls += [entries(number % 40, 0, 4) for number in range(235)]
        handed = line(calls)
        self.assertLessEqual(len(handed), 16000)
        parts = split(answers(handed))
        self.assertEqual(len(parts), 240)
        one_row = [0, 1] + [1, 1] * 1199
        self.assertTrue(all(part == [4800] + one_row * 4 for part in parts[5:]))

    def test_longest_list(self):
        text = "{1a*b;2c*b;3d*b}"
        thousand = [1000, 0, 1, 1, 49] + [1, 1, 1, 48] * 999
        row = "{a:1" + ",0" * 999 + ";c:1" + ",0" * 999 + ";d:1" + ",0" * 999 + "}"
        calls = [schema(text), load(thousand * 3), show(0), entries(2, 0, 1), drop(0), rows()]
        gaps = (16000 - len(line(calls)) - len(check([0], [0]))) // 2
        calls += [check([0], [gaps] + [0, 0] * gaps)]
        calls += [rows()] * (16000 - len(line(calls)))
        handed = line(calls)
        self.assertEqual((len(handed), gaps > 1000), (16000, True))
        copy = list(handed)
        first = answers(handed)
        self.assertEqual(split(first)[:7], [[0], [1], [len(row)] + list(row.encode()), thousand, [0], [0], [-6]])
        self.assertEqual(handed, copy)
        self.assertEqual(answers(handed), first)

    def test_a_thousand_entries_in_each_of_several_columns(self):
        text = "{1a*{1c*{1d?b;2e?b};2f?b};3g?b}"
        lists = ([(0, 2)] + [(2, 2)] * 4 + ([(1, 2)] + [(2, 2)] * 4) * 19) * 10
        inner = ([(0, 1)] + [(1, 1)] * 19) * 10
        self.assertEqual(len(lists), 1000)
        row = "{a:" + ",".join(["{c:{},{},{},{},{}}"] * 20) + "}"
        handed = column_numbers(lists, lists, inner, [(0, 0)] * 10)
        answered = ask(schema(text), check(range(4), handed), assemble(range(4), handed), load(handed), show(9))
        told = [len(row)] + list(row.encode())
        self.assertEqual(answered[1:], [[0, 10, 0], [10] + told * 10, [10], told])
        wrong = column_numbers(lists, lists[:-1] + [(1, 2)], inner, [(0, 0)] * 10)
        self.assertEqual(ask(schema(text), check(range(4), wrong))[1], [5, 1, 0])

    def test_the_most_calls(self):
        one = [1, 0, 1, 1, 49]
        calls = [schema("{1a?b}")] + [call for _ in range(59)
                                      for call in (add(one), check([0], one), assemble([0], one), drop(0))]
        calls += [load(one), put("{}"), rows()]
        self.assertEqual(len(calls), 240)
        given = ask(*calls)
        self.assertEqual(given[1:237], [[1], [0, 1, 0], [1, 5, 123, 97, 58, 49, 125], [0]] * 59)
        self.assertEqual(given[237:], [[1], [1], [2]])


if __name__ == "__main__":
    unittest.main()
