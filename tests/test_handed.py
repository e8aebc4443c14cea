"""What check, assemble, load and add refuse before they look for faults: -4, then -7, then -6."""

import unittest

from helper import (
    FAR, FAULTY, NESTED, NESTED_COLUMNS, NO_SUCH_COLUMN, TOO_MANY_ENTRIES, WRONG_ENTRIES,
    add, ask, assemble, check, column_numbers, last, load, put, rows, schema, show, text_answer,
)


def every_call(numbers, handed, all_told=False):
    calls = [check(numbers, handed), assemble(numbers, handed)]
    return calls + ([load(handed), add(handed)] if all_told else [])


class HandedCase(unittest.TestCase):
    def refused(self, refusal, schema_text, numbers, *lists, all_told=False):
        for handed in lists:
            for call in every_call(numbers, handed, all_told):
                with self.subTest(schema=schema_text, call=call[:40]):
                    self.assertEqual(last(schema(schema_text), call), refusal)

    def not_refused(self, schema_text, numbers, *lists):
        for handed in lists:
            with self.subTest(schema=schema_text, handed=handed[:40]):
                self.assertEqual(len(last(schema(schema_text), check(numbers, handed))), 3)


class TestColumnsTold(HandedCase):
    NONE = [[], [-1], [3], [4], [40], [FAR], [-FAR], [0, 3], [-1, 0], [0, 1, 2, 3], [0, FAR], [-FAR, 0],
            [0, 0], [1, 0], [2, 1], [0, 2, 1], [1, 2, 2], [0, 0, 1], [2, 0], [3, 3], list(range(100)), [0] * 100]

    def test_refused(self):
        for numbers in self.NONE:
            self.refused(NO_SUCH_COLUMN, NESTED, numbers, [0] * len(numbers))

    def test_looked_at_before_the_entries(self):
        for numbers in self.NONE:
            self.refused(NO_SUCH_COLUMN, NESTED, numbers, [], [-1], [FAR], [1001] + [0, 0] * 1001,
                         column_numbers(*NESTED_COLUMNS))

    def test_taken(self):
        for numbers in ([0], [1], [2], [0, 1], [0, 2], [1, 2], [0, 1, 2]):
            with self.subTest(numbers=numbers):
                self.assertEqual(last(schema(NESTED), check(numbers, [0] * len(numbers))), [0, 0, 0])
                self.assertEqual(last(schema(NESTED), assemble(numbers, [0] * len(numbers))), [0])

    def test_forty_columns(self):
        wide = "{" + ";".join(f"{n}f{n}?b" for n in range(1, 41)) + "}"
        self.assertEqual(last(schema(wide), check(range(40), [1, 0, 0] * 40)), [0, 1, 0])
        self.refused(NO_SUCH_COLUMN, wide, list(range(41)), [1, 0, 0] * 41)
        self.refused(NO_SUCH_COLUMN, wide, list(range(1, 41)), [1, 0, 0] * 40)

    def test_the_columns_are_those_of_the_schema_now(self):
        answered = ask(schema(NESTED), check([2], [0]), schema("{1a!b}"), check([2], [0]), check([0], [0]))
        self.assertEqual(answered[1:], [[0, 0, 0], [0], NO_SUCH_COLUMN, [0, 0, 0]])


class TestForm(HandedCase):
    def test_every_list_that_ends_too_early(self):
        whole = column_numbers(*NESTED_COLUMNS)
        self.assertEqual(last(schema(NESTED), check([0, 1, 2], whole)), [0, 3, 0])
        self.refused(WRONG_ENTRIES, NESTED, [0, 1, 2], *[whole[:length] for length in range(len(whole))],
                     all_told=True)

    def test_lists_that_go_on(self):
        whole = column_numbers(*NESTED_COLUMNS)
        self.refused(WRONG_ENTRIES, NESTED, [0, 1, 2], whole + [0], whole + [-1], whole + [FAR], whole + [0, 0, 0],
                     whole + whole, all_told=True)
        self.refused(WRONG_ENTRIES, NESTED, [0, 1], whole)
        self.refused(WRONG_ENTRIES, "{1a?b}", [0], [0, 0], [1, 0, 0, 0], [0, 1, 0, 0], all_told=True)

    def test_fewer_columns_than_told(self):
        self.refused(WRONG_ENTRIES, NESTED, [0, 1, 2], [0, 0], column_numbers(*NESTED_COLUMNS[:2]), [], all_told=True)

    def test_load_and_add_ask_for_all_columns(self):
        for handed in (column_numbers(*NESTED_COLUMNS[:2]), [0, 0], [0], [], [0, 0, 0, 0]):
            for call in (load(handed), add(handed)):
                with self.subTest(call=call):
                    self.assertEqual(last(schema(NESTED), call), WRONG_ENTRIES)

    def test_counts(self):
        self.refused(WRONG_ENTRIES, "{1a?b}", [0], [-1], [-FAR], [1], [2, 0, 0], [FAR], [FAR, 0, 0], [-1, 0, 0],
                     [1, 0], all_told=True)

    def test_levels_below_zero(self):
        self.refused(WRONG_ENTRIES, "{1a*b}", [0], [1, -1, 0], [1, 0, -1], [1, -FAR, 0], [1, 0, -FAR],
                     [1, -1, 1, 1, 49], [2, 0, 0, 0, -1], [2, 0, 0, -1, 0], all_told=True)

    def test_levels_that_are_too_great_are_in_the_form(self):
        self.not_refused("{1a*b}", [0], [1, 2, 0], [1, 0, 2], [1, FAR, FAR], [1, FAR, 1, 1, 49], [1, 0, FAR])

    def test_lengths(self):
        self.refused(WRONG_ENTRIES, "{1a?t3}", [0], [1, 0, 1, -1], [1, 0, 1, -FAR], [1, 0, 1, 3, 34, 34],
                     [1, 0, 1, 1], [1, 0, 1, FAR, 34, 34], [1, 0, 1, -2, 34, 34], [2, 0, 1, 2, 34, 34, 0, 1, 2, 34],
                     all_told=True)
        self.not_refused("{1a?t3}", [0], [1, 0, 1, 2, 34, 34], [1, 0, 1, 0], [1, 0, 1, 5, 0, 255, 1, 2, 3])

    def test_bytes(self):
        self.refused(WRONG_ENTRIES, "{1a?t3}", [0], [1, 0, 1, 1, 256], [1, 0, 1, 1, -1], [1, 0, 1, 1, FAR],
                     [1, 0, 1, 1, -FAR], [1, 0, 1, 3, 34, 256, 34], [1, 0, 1, 3, 34, -1, 34],
                     [2, 0, 1, 2, 34, 34, 0, 1, 2, 34, 256], all_told=True)
        self.not_refused("{1a?t3}", [0], [1, 0, 1, 1, 255], [1, 0, 1, 1, 0])

    def test_a_literal_stands_just_where_the_definition_is_the_column_s(self):
        self.refused(WRONG_ENTRIES, "{1a?b}", [0], [1, 0, 1], [1, 0, 0, 1, 49], [1, 0, 2, 1, 49], all_told=True)
        self.refused(WRONG_ENTRIES, "{1a!b}", [0], [1, 0, 0], [1, 0, 1, 1, 49], all_told=True)
        self.not_refused("{1a?b}", [0], [1, 0, 1, 1, 49], [1, 0, 0], [1, 0, 2])
        self.not_refused("{1a!b}", [0], [1, 0, 0, 1, 49], [1, 0, 1])

    def test_each_column_has_its_own_definition_level(self):
        text = "{1a!b;2c?b;3d?{1e?b}}"
        self.not_refused(text, [0, 1, 2], [1, 0, 0, 1, 49, 1, 0, 1, 1, 49, 1, 0, 2, 1, 49])
        self.not_refused(text, [0, 2], [1, 0, 0, 1, 49, 1, 0, 1])
        self.refused(WRONG_ENTRIES, text, [0, 1], [1, 0, 0, 1, 49, 1, 0, 1])

    def test_looked_at_before_faults(self):
        self.refused(WRONG_ENTRIES, "{1a*b;2c*b}", [0, 1], [1, 1, 0, 1, 0], [1, 9, 9, 1, 0, -1],
                     [1, 0, 1, 1, 50, 1, 0, 1, 1, 256], all_told=True)


class TestMostEntries(HandedCase):
    def test_in_one_column(self):
        self.assertEqual(last(schema("{1a?b}"), check([0], [1000] + [0, 0] * 1000)), [0, 1000, 0])
        self.assertEqual(last(schema("{1a?b}"), assemble([0], [1000] + [0, 0] * 1000)), [1000] + [2, 123, 125] * 1000)
        self.refused(TOO_MANY_ENTRIES, "{1a?b}", [0], [1001] + [0, 0] * 1001, [7000] + [0, 0] * 7000, all_told=True)

    def test_in_one_row(self):
        handed = [1000, 0, 1, 1, 49] + [1, 1, 1, 48] * 999
        self.assertEqual(last(schema("{1a*b}"), check([0], handed)), [0, 1, 0])
        self.refused(TOO_MANY_ENTRIES, "{1a*b}", [0], [1001, 0, 1, 1, 49] + [1, 1, 1, 48] * 1000, all_told=True)

    def test_each_column_by_itself(self):
        text = "{1a?b;2c?b;3d?b}"
        thousand = [1000] + [0, 0] * 1000
        more = [1001] + [0, 0] * 1001
        self.assertEqual(last(schema(text), check([0, 1, 2], thousand * 3)), [0, 1000, 0])
        self.refused(TOO_MANY_ENTRIES, text, [0, 1, 2], thousand * 2 + more, thousand + more + thousand,
                     more + thousand * 2, more * 3, all_told=True)
        self.refused(TOO_MANY_ENTRIES, text, [0, 2], thousand + more)

    def test_looked_at_behind_the_form(self):
        text = "{1a?b;2c?b}"
        more = [1001] + [0, 0] * 1001
        self.refused(WRONG_ENTRIES, text, [0, 1], more, more + [1], more + [0, 0], more + [1, 0, -1],
                     [1002] + [0, 0] * 1001, [0] + more[:-1], all_told=True)

    def test_looked_at_before_faults(self):
        self.refused(TOO_MANY_ENTRIES, "{1a?b}", [0], [1001] + [5, 5] * 1001, [1001] + [1, 0] * 1001, all_told=True)
        self.refused(TOO_MANY_ENTRIES, "{1a?b;2c?b}", [0, 1], [1, 5, 5, 1001] + [0, 0] * 1001, all_told=True)


class TestRefused(unittest.TestCase):
    def test_all_is_as_it_was(self):
        kept = [schema("{1a?b}"), put("{a:1}")]
        for handed in ([1], [1001] + [0, 0] * 1001, [1, 5, 0], [2, 0, 0, 1, 0]):
            for call in every_call([0], handed, True) + [check([], handed), assemble([1], handed)]:
                with self.subTest(call=call[:20]):
                    answered = ask(*kept, call, rows(), show(0), load([1, 0, 0]))
                    self.assertEqual(answered[3:], [[1], text_answer("{a:1}"), [1]])

    def test_check_and_assemble_keep_nothing(self):
        handed = [2, 0, 0, 0, 1, 1, 49]
        answered = ask(schema("{1a?b}"), check([0], handed), assemble([0], handed), rows(), put("{a:0}"),
                       check([0], handed), assemble([0], handed), rows(), show(0))
        self.assertEqual(answered[3], [0])
        self.assertEqual(answered[7:], [[1], text_answer("{a:0}")])

    def test_a_fault_is_refused_by_all_but_check(self):
        calls = every_call([0], [1, 1, 0], True)
        self.assertEqual(ask(schema("{1a?b}"), *calls)[1:], [[1, 0, 0], FAULTY, FAULTY, FAULTY])


if __name__ == "__main__":
    unittest.main()
