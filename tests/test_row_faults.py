"""Kind 5: columns that are right by themselves, but there are no rows that have them."""

import unittest

from helper import SHAPES, FaultCase, add, assemble, check, column_numbers, last, load, schema, texts_answer


class RowFaultCase(FaultCase):
    def no_rows(self, place, schema_text, numbers, *columns):
        """There are none from the column at this place on; for the columns before it there are."""
        self.fault(5, place, 0, schema_text, numbers, *columns)
        if place > 0:
            told = column_numbers(*columns[:place])
            self.assertEqual(last(schema(schema_text), check(numbers[:place], told))[0], 0)


class TestUnequallyManyRows(RowFaultCase):
    TEXT = "{1a?b;2c?b;3d?b}"

    def test_place(self):
        one, two, three = ([(0, 0)] * count for count in (1, 2, 3))
        self.fine(2, self.TEXT, [0, 1, 2], two, two, two)
        self.no_rows(1, self.TEXT, [0, 1, 2], two, one, two)
        self.no_rows(1, self.TEXT, [0, 1, 2], two, three, two)
        self.no_rows(1, self.TEXT, [0, 1, 2], one, two, two)
        self.no_rows(2, self.TEXT, [0, 1, 2], two, two, three)
        self.no_rows(2, self.TEXT, [0, 1, 2], two, two, one)
        self.no_rows(1, self.TEXT, [0, 2], two, one)

    def test_no_entries(self):
        self.fine(0, self.TEXT, [0, 1, 2], [], [], [])
        self.no_rows(1, self.TEXT, [0, 1, 2], [], [(0, 0)], [(0, 0)])
        self.no_rows(1, self.TEXT, [0, 1, 2], [(0, 0)], [], [])
        self.no_rows(2, self.TEXT, [0, 1, 2], [(0, 0)], [(0, 0)], [])
        self.no_rows(2, self.TEXT, [0, 1, 2], [], [], [(0, 0)])

    def test_only_entries_with_repetition_nought_are_rows(self):
        text = "{1a*b;2c*b}"
        self.fine(1, text, [0, 1], [(0, 1, "1"), (1, 1, "1"), (1, 1, "1")], [(0, 0)])
        self.fine(2, text, [0, 1], [(0, 1, "1"), (0, 1, "1")], [(0, 1, "1"), (1, 1, "0"), (0, 0)])
        self.no_rows(1, text, [0, 1], [(0, 1, "1"), (1, 1, "1")], [(0, 1, "1"), (0, 1, "1")])


class TestSameOccurrences(RowFaultCase):
    def test_within_a_field_that_may_be_missing(self):
        text = "{1a?{1c!b;2d?b}}"
        self.fine(1, text, [0, 1], [(0, 0)], [(0, 0)])
        self.fine(1, text, [0, 1], [(0, 1, "1")], [(0, 1)])
        self.no_rows(1, text, [0, 1], [(0, 0)], [(0, 1)])
        self.no_rows(1, text, [0, 1], [(0, 0)], [(0, 2, "1")])
        self.no_rows(1, text, [0, 1], [(0, 1, "1")], [(0, 0)])
        self.no_rows(1, text, [0, 1], [(0, 1, "1"), (0, 0)], [(0, 0), (0, 1)])

    def test_within_a_field_with_any_number(self):
        text = "{1a*{1c?b;2d?b}}"
        self.fine(1, text, [0, 1], [(0, 1), (1, 2, "1")], [(0, 2, "1"), (1, 1)])
        self.no_rows(1, text, [0, 1], [(0, 1), (1, 1)], [(0, 1)])
        self.no_rows(1, text, [0, 1], [(0, 1)], [(0, 1), (1, 1)])
        self.no_rows(1, text, [0, 1], [(0, 0)], [(0, 1)])
        self.no_rows(1, text, [0, 1], [(0, 1)], [(0, 0)])
        self.no_rows(1, text, [0, 1], [(0, 1), (1, 1), (0, 1)], [(0, 1), (0, 1), (1, 1)])

    def test_within_a_field_with_a_key(self):
        text = "{1a%{1k!i8;2c?b}}"
        self.fine(1, text, [0, 1], [(0, 1, "1"), (1, 1, "2")], [(0, 1), (1, 2, "1")])
        self.no_rows(1, text, [0, 1], [(0, 1, "1"), (1, 1, "2")], [(0, 1)])
        self.no_rows(1, text, [0, 1], [(0, 1, "1")], [(0, 1), (1, 2, "1")])
        self.no_rows(1, text, [0, 1], [(0, 1, "1")], [(0, 0)])
        self.no_rows(1, text, [0, 1], [(0, 0)], [(0, 1)])

    def test_within_a_group_that_is_always_there(self):
        text = "{1a!{1c?b;2d*b};3e!{1f!b}}"
        self.fine(1, text, [0, 1, 2], [(0, 0)], [(0, 1, "1"), (1, 1, "1")], [(0, 0, "1")])
        self.no_rows(1, text, [0, 1, 2], [(0, 0)], [(0, 1, "1"), (0, 0)], [(0, 0, "1")])
        within = "{1x?{1a!{1c?b;2d*b}}}"
        self.fine(1, within, [0, 1], [(0, 1)], [(0, 1)])
        self.no_rows(1, within, [0, 1], [(0, 1)], [(0, 0)])
        self.no_rows(1, within, [0, 1], [(0, 0)], [(0, 2, "1")])

    def test_within_a_choice_that_may_be_missing(self):
        text = "{1a?<1c!b;2d!b;3e!b>}"
        self.fine(1, text, [0, 1], [(0, 1)], [(0, 1)])
        self.fine(1, text, [0, 1], [(0, 1)], [(0, 2, "1")])
        self.no_rows(1, text, [0, 1], [(0, 1)], [(0, 0)])
        self.no_rows(1, text, [0, 1], [(0, 0)], [(0, 2, "1")])
        self.no_rows(1, text, [0, 1], [(0, 2, "1")], [(0, 0)])

    def test_within_a_choice_s_field(self):
        text = "{1a!<1c!{1e?b;2f?b};2d!b>}"
        self.fine(1, text, [0, 1], [(0, 1)], [(0, 2, "1")])
        self.fine(1, text, [0, 1], [(0, 0)], [(0, 0)])
        self.no_rows(1, text, [0, 1], [(0, 1)], [(0, 0)])
        self.no_rows(1, text, [0, 1], [(0, 0)], [(0, 1)])

    def test_lists_within_lists(self):
        text = "{1a*{1c*{1d?b;2e?b};3f?b}}"
        d = [(0, 2), (2, 2), (1, 1), (1, 2)]
        self.fine(1, text, [0, 1, 2], d, d, [(0, 1), (1, 2, "1"), (1, 1)])
        # The same number of entries, but one in the first list of c, and one in the third.
        self.no_rows(1, text, [0, 1, 2], d, [(0, 2), (1, 1), (1, 2), (2, 2)], [(0, 1), (1, 2, "1"), (1, 1)])
        self.no_rows(1, text, [0, 1, 2], d, [(0, 2), (2, 2), (2, 2), (1, 2)], [(0, 1), (1, 2, "1"), (1, 1)])
        self.no_rows(1, text, [0, 1, 2], d, [(0, 2), (2, 2), (1, 2), (1, 2)], [(0, 1), (1, 2, "1"), (1, 1)])
        self.no_rows(2, text, [0, 1, 2], d, d, [(0, 1), (1, 1)])
        self.no_rows(2, text, [0, 1, 2], d, d, [(0, 1), (1, 1), (1, 1), (1, 1)])
        self.no_rows(1, text, [0, 2], d, [(0, 1), (1, 1)])

    def test_lists_beside_one_another(self):
        text = "{1a*{1c*b;2d*b}}"
        self.fine(1, text, [0, 1], [(0, 2, "1"), (2, 2, "1"), (1, 1)], [(0, 1), (1, 2, "1"), (2, 2, "1")])
        self.no_rows(1, text, [0, 1], [(0, 2, "1"), (2, 2, "1")], [(0, 2, "1"), (1, 2, "1")])

    def test_a_gap_of_which_one_column_tells_more(self):
        text = "{1a?{1c?{1d?b;2e?b};2f?b}}"
        self.fine(1, text, [0, 1, 2], [(0, 1)], [(0, 1)], [(0, 2, "1")])
        self.no_rows(2, text, [0, 1, 2], [(0, 0)], [(0, 0)], [(0, 1)])
        self.no_rows(1, text, [0, 1, 2], [(0, 0)], [(0, 1)], [(0, 1)])
        self.no_rows(1, text, [0, 1, 2], [(0, 1)], [(0, 0)], [(0, 1)])
        self.no_rows(1, text, [0, 1, 2], [(0, 1)], [(0, 2)], [(0, 1)])
        self.no_rows(1, text, [0, 1, 2], [(0, 2)], [(0, 1)], [(0, 1)])
        many = "{1a*{1c*{1d?b;2e?b}}}"
        self.no_rows(1, many, [0, 1], [(0, 1), (1, 1)], [(0, 1), (1, 2)])
        self.no_rows(1, many, [0, 1], [(0, 0)], [(0, 2), (2, 2), (1, 1)])

    def test_columns_that_share_no_field_are_free(self):
        self.fine(1, "{1a*{1c?b};2d*{1e?b}}", [0, 1], [(0, 1), (1, 1), (1, 1)], [(0, 0)])
        self.fine(1, "{1a?{1c?b};2d?{1e?b}}", [0, 1], [(0, 2, "1")], [(0, 0)])

    def test_the_first_column_of_all_the_wrong_ones(self):
        # The fourth column differs in the first row already, the third only in the second one.
        text = "{1a?{1c?b;2d?b;3e?b;4f?b}}"
        self.no_rows(2, text, [0, 1, 2, 3], [(0, 0), (0, 1)], [(0, 0), (0, 1)], [(0, 0), (0, 0)], [(0, 1), (0, 1)])
        # The later column lies in the field that comes first in the schema's text.
        other = "{1a?{1c?b;2d?b};2e?{1f?b;2g?b}}"
        self.no_rows(1, other, [0, 1, 2, 3], [(0, 0), (0, 0)], [(0, 0), (0, 1)], [(0, 1), (0, 0)], [(0, 0), (0, 0)])

    def test_the_last_of_forty_columns(self):
        wide = "{1a?{" + ";".join(f"{n}f{n}?b" for n in range(1, 41)) + "}}"
        columns = [[(0, 1), (0, 0)]] * 40
        self.fine(2, wide, list(range(40)), *columns)
        self.no_rows(39, wide, list(range(40)), *columns[:39], [(0, 1), (0, 1)])
        self.no_rows(1, wide, list(range(40)), columns[0], [(0, 1), (0, 1)], *columns[2:])
        self.no_rows(20, wide, list(range(40)), *columns[:20], [(0, 0), (0, 0)], *columns[21:])


class TestChoices(RowFaultCase):
    TEXT = "{1a!<1c!b;2d!i8;3e!{1f?b;2g?b}>}"

    def test_just_one_is_taken(self):
        self.fine(3, self.TEXT, [0, 1, 2, 3], [(0, 1, "1"), (0, 0), (0, 0)], [(0, 0), (0, 1, "7"), (0, 0)],
                  [(0, 0), (0, 0), (0, 1)], [(0, 0), (0, 0), (0, 2, "1")])

    def test_two_are_taken(self):
        self.no_rows(1, self.TEXT, [0, 1], [(0, 1, "1")], [(0, 1, "7")])
        self.no_rows(1, self.TEXT, [0, 2], [(0, 1, "1")], [(0, 1)])
        self.no_rows(2, self.TEXT, [0, 1, 2, 3], [(0, 0)], [(0, 1, "7")], [(0, 1)], [(0, 1)])
        self.no_rows(1, self.TEXT, [0, 1, 2], [(0, 1, "1")], [(0, 1, "7")], [(0, 1)])

    def test_none_is_taken(self):
        self.fine(1, self.TEXT, [0, 1], [(0, 0)], [(0, 0)])
        self.fine(1, self.TEXT, [1, 2], [(0, 0)], [(0, 0)])
        self.fine(1, self.TEXT, [2, 3], [(0, 0)], [(0, 0)])
        self.no_rows(2, self.TEXT, [0, 1, 2, 3], [(0, 0)], [(0, 0)], [(0, 0)], [(0, 0)])
        # One column within a field is enough for the field to be told.
        self.no_rows(2, self.TEXT, [0, 1, 2], [(0, 0)], [(0, 0)], [(0, 0)])
        self.no_rows(2, self.TEXT, [0, 1, 3], [(0, 0)], [(0, 0)], [(0, 0)])

    def test_of_one_field(self):
        self.fine(1, "{1a!<1c!b>}", [0], [(0, 1, "1")])
        self.no_rows(0, "{1a!<1c!b>}", [0], [(0, 0)])
        self.no_rows(0, "{1a!<1c!b>}", [0], [(0, 1, "1"), (0, 0)])
        self.fine(1, "{1a?<1c!b>}", [0], [(0, 0)])
        self.no_rows(0, "{1a?<1c!b>}", [0], [(0, 1)])
        self.no_rows(0, "{1a*<1c!b>}", [0], [(0, 2, "1"), (1, 1)])
        self.no_rows(0, "{1a!<1c!{1d?b;2e?b}>}", [1], [(0, 0)])

    def test_in_a_list(self):
        text = "{1a*<1c!b;2d!b>}"
        self.fine(2, text, [0, 1], [(0, 1), (1, 2, "1"), (0, 0)], [(0, 2, "1"), (1, 1), (0, 0)])
        self.no_rows(1, text, [0, 1], [(0, 1), (1, 1), (0, 0)], [(0, 2, "1"), (1, 1), (0, 0)])
        self.no_rows(1, text, [0, 1], [(0, 1), (1, 2, "1"), (0, 0)], [(0, 2, "1"), (1, 2, "1"), (0, 0)])
        self.no_rows(1, text, [0, 1], [(0, 2, "1")], [(0, 1), (1, 2, "1")])

    def test_in_one_another(self):
        text = "{1a!<1c!<1d!b;2e!b>;2f!b>}"
        self.fine(3, text, [0, 1, 2], [(0, 2, "1"), (0, 1), (0, 0)], [(0, 1), (0, 2, "1"), (0, 0)],
                  [(0, 0), (0, 0), (0, 1, "1")])
        self.no_rows(1, text, [0, 1, 2], [(0, 1)], [(0, 1)], [(0, 0)])
        self.no_rows(1, text, [0, 1, 2], [(0, 2, "1")], [(0, 2, "1")], [(0, 0)])
        self.no_rows(1, text, [0, 1, 2], [(0, 2, "1")], [(0, 0)], [(0, 0)])
        self.no_rows(2, text, [0, 1, 2], [(0, 2, "1")], [(0, 1)], [(0, 1, "1")])
        self.no_rows(2, text, [0, 1, 2], [(0, 0)], [(0, 0)], [(0, 0)])
        self.no_rows(1, text, [0, 2], [(0, 0)], [(0, 0)])
        self.fine(1, text, [0, 2], [(0, 1)], [(0, 0)])


class TestKeysTold(RowFaultCase):
    def keys(self, kind_text, rising, others):
        text = f"{{1a%{{1k!{kind_text};2v?b}}}}"
        for keys in rising:
            self.fine(1, text, [0], [(int(place > 0), 1, key) for place, key in enumerate(keys)])
        for keys in others:
            told = [(int(place > 0), 1, key) for place, key in enumerate(keys)]
            self.no_rows(0, text, [0], told)
            self.no_rows(0, text, [0, 1], told, [entry[:2] for entry in told])

    def test_bits(self):
        self.keys("b", [["0"], ["1"], ["0", "1"]],
                  [["0", "0"], ["1", "1"], ["1", "0"], ["0", "1", "1"], ["0", "1", "0"]])

    def test_whole_numbers(self):
        self.keys("i8", [["9", "10"], ["-10", "-9", "0", "5", "100"], ["-128", "127"]],
                  [["10", "9"], ["-9", "-10"], ["5", "5"], ["0", "-1"], ["1", "3", "2"], ["1", "2", "2"]])

    def test_texts(self):
        self.keys("t3", [['""', '"a"', '"aa"', '"b"'], ['"!"', '"\\22"', '"#"'], ['"a"', '"\\ff"'], ['"a"', '"a\\00"'],
                         ['"["', '"\\5c"', '"]"'], ['"10"', '"9"'], ['"\\00"', '" "']],
                  [['"a"', '""'], ['"a"', '"a"'], ['"ab"', '"a"'], ['"\\ff"', '"a"'], ['"#"', '"\\22"'],
                   ['"b"', '"aa"'], ['""', '""'], ['" "', '"\\00"']])

    def test_each_list_by_itself(self):
        text = "{1a*{1c%{1k!i8}}}"
        self.fine(2, text, [0], [(0, 2, "5"), (2, 2, "6"), (1, 2, "1"), (2, 2, "5"), (0, 2, "0")])
        self.no_rows(0, text, [0], [(0, 2, "5"), (2, 2, "6"), (1, 2, "5"), (2, 2, "1")])
        outer = "{1a%{1k!i8;2c%{1k!i8}}}"
        self.fine(1, outer, [0, 1], [(0, 1, "1"), (1, 1, "2")], [(0, 2, "9"), (1, 2, "1"), (2, 2, "2")])
        self.no_rows(1, outer, [0, 1], [(0, 1, "1"), (1, 1, "2")], [(0, 2, "9"), (1, 2, "2"), (2, 2, "1")])
        self.no_rows(0, outer, [0, 1], [(0, 1, "2"), (1, 1, "1")], [(0, 1), (1, 1)])
        self.fine(2, "{1a%{1k!i8}}", [0], [(0, 1, "5"), (0, 1, "4")])

    def test_only_keys_rise(self):
        self.fine(1, "{1a%{1k!i8;2v!i8}}", [0, 1], [(0, 1, "1"), (1, 1, "2")], [(0, 1, "9"), (1, 1, "8")])
        self.fine(1, "{1a%{1k!i8;2v!i8}}", [1], [(0, 1, "9"), (1, 1, "8")])
        self.fine(1, "{1a*{1k!i8}}", [0], [(0, 1, "2"), (1, 1, "1")])


class TestKeysNotTold(RowFaultCase):
    def occurrences(self, kind_text, most):
        for value_text in ("2v?b", "2v!{1w?b}", "2v!<1w!b;2x!b>", "2v*b"):
            text = f"{{1a%{{1k!{kind_text};{value_text}}}}}"
            told = [(0, 1)] + [(1, 1)] * most
            self.fine(1, text, [1], told[:most])
            self.no_rows(0, text, [1], told)
            self.no_rows(0, text, [1], told + [(1, 1)])
            self.fine(2, text, [1], told[:most] + told[:most])
            self.no_rows(0, text, [1], told[:1] + told)

    def test_as_many_as_there_are_literals(self):
        self.occurrences("b", 2)
        self.occurrences("i2", 4)
        self.occurrences("i3", 8)
        self.occurrences("i8", 256)
        self.occurrences("t1", 257)

    def test_at_most_a_thousand_entries(self):
        told = [(0, 1)] + [(1, 1)] * 999
        for kind_text in ("i10", "i11", "i64", "t2", "t3", "t999"):
            self.fine(1, f"{{1a%{{1k!{kind_text};2v?b}}}}", [1], told)
        self.no_rows(0, "{1a%{1k!i9;2v?b}}", [1], told)
        self.no_rows(0, "{1a%{1k!i9;2v?b}}", [1], told[:513])
        self.fine(1, "{1a%{1k!i9;2v?b}}", [1], told[:512])

    def test_each_list_by_itself(self):
        text = "{1a*{1c%{1k!b;2v?b}}}"
        self.fine(1, text, [1], [(0, 2), (2, 2), (1, 2), (2, 2), (1, 1)])
        self.no_rows(0, text, [1], [(0, 2), (2, 2), (1, 2), (2, 2), (2, 2)])

    def test_keys_of_both_in_one_another(self):
        text = "{1a%{1k!b;2c%{1k!i2;2v?b}}}"
        self.fine(1, text, [2], [(0, 2)] + [(2, 2)] * 3 + [(1, 2)] + [(2, 2)] * 3)
        self.no_rows(0, text, [2], [(0, 2)] + [(2, 2)] * 4)
        self.no_rows(0, text, [2], [(0, 2), (1, 2), (1, 2)])
        self.no_rows(0, text, [1], [(0, 2, "0"), (1, 2, "0"), (1, 2, "0")])
        self.no_rows(1, text, [0, 2], [(0, 1, "0")], [(0, 2)] + [(2, 2)] * 4)

    def test_a_list_s_gap_is_no_occurrence(self):
        self.fine(1, "{1a*{1c%{1k!b;2v?b}}}", [1], [(0, 1), (1, 1), (1, 1), (1, 1)])

    def test_values_that_are_lists_are_no_occurrences(self):
        self.fine(1, "{1a%{1k!b;2v*b}}", [1], [(0, 2, "1"), (2, 2, "1"), (2, 2, "1"), (1, 2, "1"), (2, 2, "1")])


class TestWhole(RowFaultCase):
    def test_the_first_example_s_columns(self):
        columns = [
            [(0, 0, "5")], [(0, 0)], [(0, 1, '"a"'), (1, 1, '"b\\22"')], [(0, 1, "-1")], [(0, 1, "2")], [(0, 0)],
            [(0, 1, "7")], [(0, 1, '"a"'), (1, 1, '"b"')], [(0, 1), (1, 2, "3")],
        ]
        numbers = list(range(9))
        self.fine(1, SHAPES, numbers, *columns)
        for place, other in ((4, [(0, 0)]), (5, [(0, 1, "1")]), (6, [(0, 0)]), (7, [(0, 1, '"b"'), (1, 1, '"a"')]),
                             (8, [(0, 1)]), (2, [(0, 1, '"a"'), (0, 1, '"a"')]), (0, [])):
            # A choice's first column and the first column of all are at fault only together with the next one.
            self.no_rows({5: 6, 0: 1}.get(place, place), SHAPES, numbers, *columns[:place], other,
                         *columns[place + 1:])

    def test_load_and_add_refuse(self):
        told = column_numbers([(0, 0)], [(0, 0), (0, 0)])
        for call in (load(told), add(told)):
            self.assertEqual(last(schema("{1a?b;2c?b}"), call), [-1])

    def test_a_row_may_be_longer_than_a_row_s_text(self):
        told = [(0, 1, '"' + "x" * 990 + '"')] + [(1, 1, '"' + "y" * 990 + '"')] * 9
        self.fine(1, "{1a*t999}", [0], told)
        text = "{a:" + ",".join(entry[2] for entry in told) + "}"
        self.assertEqual(last(schema("{1a*t999}"), assemble([0], column_numbers(told))), texts_answer(text))


if __name__ == "__main__":
    unittest.main()
