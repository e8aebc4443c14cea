"""The calls load, add and drop, mixed with those that put and tell rows."""

import unittest

from helper import (
    FAR, FAULTY, NESTED, NESTED_COLUMNS, NESTED_ROWS, NO_SUCH_ROW, SHAPES, SHAPES_ROW, TOO_MANY_ENTRIES,
    TOO_MANY_ROWS, WRONG_ENTRIES, WRONG_TEXT,
    add, ask, column_numbers, drop, entries, entry_numbers, last, load, put, rows, schema, show, text_answer,
)


def bits(text):
    """The rows of `{1a?b}`: 0 and 1 stand for a bit, - for a gap."""
    return column_numbers([(0, 0) if sign == "-" else (0, 1, sign) for sign in text])


def bit_answers(text):
    return [text_answer("{}" if sign == "-" else f"{{a:{sign}}}") for sign in text]


def shows(count):
    return [show(number) for number in range(count)]


class TestLoad(unittest.TestCase):
    def test_the_example(self):
        answered = ask(schema(NESTED), load(column_numbers(*NESTED_COLUMNS)), rows(), *shows(4),
                       *[entries(number, 0, 3) for number in range(3)])
        self.assertEqual(answered[1:3], [[3], [3]])
        self.assertEqual(answered[3:7], [text_answer(text) for text in NESTED_ROWS] + [NO_SUCH_ROW])
        self.assertEqual(answered[7:], [entry_numbers(told) for told in NESTED_COLUMNS])

    def test_what_entries_tells(self):
        for text, count, texts in (
            (SHAPES, 9, [SHAPES_ROW, '{id:-1;name:"";shape:<dot:1>}', '{id:0;shape:<line:{len:-8}>;attr:{key:""}}']),
            (NESTED, 3, NESTED_ROWS),
            ("{1a*{1c*<1d!b;2e!b>;2f%{1k!i8;2v?t3}}}", 4,
             ['{a:{c:<d:1>,<e:0>},{f:{k:-1},{k:5;v:"x"}},{}}', "{}", "{a:{}}"]),
        ):
            told_calls = [entries(number, 0, 3) for number in range(count)]
            told = ask(schema(text), *[put(row) for row in texts], *told_calls)[4:]
            handed = [number for part in told for number in part]
            for call in (load(handed), add(handed)):
                with self.subTest(schema=text, call=call[0]):
                    answered = ask(schema(text), call, *shows(3), *told_calls)
                    self.assertEqual(answered[1:], [[3]] + [text_answer(row) for row in texts] + told)

    def test_stands_in_the_place_of_all_rows(self):
        answered = ask(schema("{1a?b}"), put("{a:1}"), put("{a:1}"), put("{a:1}"), load(bits("-0")), rows(), *shows(3))
        self.assertEqual(answered[4:], [[2], [2]] + bit_answers("-0") + [NO_SUCH_ROW])

    def test_no_rows(self):
        answered = ask(schema("{1a?b;2c!b}"), load([0, 0]), put("{c:1}"), rows(), load([0, 0]), rows(), show(0),
                       entries(0, 0, 0))
        self.assertEqual(answered[1:], [[0], [0], [1], [0], [0], NO_SUCH_ROW, [0]])

    def test_a_hundred_and_one_more(self):
        answered = ask(schema("{1a?b}"), load(bits("1" * 100)), rows(), load(bits("0" * 101)), rows(), show(99),
                       show(100), load(bits("0" * 100)), show(99), load(bits("-" * 1000)), rows())
        self.assertEqual(answered[1:], [[100], [100], TOO_MANY_ROWS, [100], *bit_answers("1"), NO_SUCH_ROW, [100],
                                        *bit_answers("0"), TOO_MANY_ROWS, [100]])

    def test_rows_are_counted_not_entries(self):
        handed = column_numbers([(0, 1, "1")] + [(1, 1, "0")] * 999)
        self.assertEqual(last(schema("{1a*b}"), load(handed)), [1])

    def test_faults_are_looked_at_before_the_rows(self):
        text = "{1a*b}"
        for wrong in ((0, 1, "2"), (2, 0), (1, 0)):
            for call in (load, add):
                handed = column_numbers([(0, 0)] * 101 + [wrong])
                self.assertEqual(last(schema(text), call(handed)), FAULTY)
                self.assertEqual(last(schema(text), call(column_numbers([(0, 0)] * 102))), TOO_MANY_ROWS)
        two = column_numbers([(0, 0)] * 101, [(0, 0)] * 102)
        self.assertEqual(ask(schema("{1a?b;2c?b}"), load(two), add(two))[1:], [FAULTY, FAULTY])

    def test_refusals_leave_the_rows(self):
        wrong = ([], [1], bits("0") + [0], [1001] + [0, 0] * 1001, [1, 0, 2], [1, 1, 0], [1, 0, 1, 0], bits("0" * 101))
        refusals = [WRONG_ENTRIES] * 3 + [TOO_MANY_ENTRIES] + [FAULTY] * 3 + [TOO_MANY_ROWS]
        for handed, refusal in zip(wrong, refusals):
            for call in (load(handed), add(handed)):
                with self.subTest(call=call[:10]):
                    answered = ask(schema("{1a?b}"), load(bits("10-")), call, rows(), *shows(4), entries(0, 0, 3))
                    self.assertEqual(answered[2:], [refusal, [3]] + bit_answers("10-") + [NO_SUCH_ROW, bits("10-")])

    def test_rows_longer_than_a_row_s_text(self):
        literal = '"' + "x" * 999 + '"'
        told = [(0, 1, literal)] + [(1, 1, literal)] * 4
        text = "{a:" + ",".join([literal] * 5) + "}"
        answered = ask(schema("{1a*t999}"), load(column_numbers(told)), show(0), entries(0, 0, 1),
                       add(column_numbers(told)), show(1), put('{a:""}'), rows())
        self.assertEqual(answered[1:], [[1], text_answer(text), entry_numbers(told), [2], text_answer(text), [2], [3]])
        put_again = ask(schema("{1a*t999}"), put(text), rows())
        self.assertEqual(put_again[1:], [WRONG_TEXT, [0]])

    def test_belongs_to_the_schema_now(self):
        answered = ask(schema("{1a?b}"), load(bits("1")), schema("{1a!b}"), rows(), load(bits("1")),
                       load([1, 0, 0, 1, 49]), schema("{"), rows(), show(0))
        # In the column of `{1a!b}` a definition of 1 has no literal, so the first schema's entries aren't in its form.
        self.assertEqual(answered[1:], [[1], [0], [0], WRONG_ENTRIES, [1], WRONG_TEXT, [1], text_answer("{a:1}")])


class TestAdd(unittest.TestCase):
    def test_behind_those_there_are(self):
        answered = ask(schema("{1a?b}"), put("{a:1}"), add(bits("0-")), rows(), *shows(4), entries(0, 0, 3),
                       add(bits("1")), entries(0, 1, 3))
        self.assertEqual(answered[2:], [[3], [3]] + bit_answers("10-") + [NO_SUCH_ROW, bits("10-"), [4], bits("0-1")])

    def test_to_no_rows(self):
        self.assertEqual(ask(schema("{1a?b}"), add(bits("10")), rows(), show(1))[1:], [[2], [2], *bit_answers("0")])

    def test_no_rows(self):
        answered = ask(schema("{1a?b}"), add([0]), put("{a:1}"), add([0]), rows(), show(0))
        self.assertEqual(answered[1:], [[0], [0], [1], [1], *bit_answers("1")])

    def test_a_hundred_together(self):
        answered = ask(schema("{1a?b}"), load(bits("1" * 60)), add(bits("0" * 41)), rows(), add(bits("0" * 40)), rows(),
                       show(59), show(60), show(99), add([0]), add(bits("0")), put("{}"), rows(), show(100))
        self.assertEqual(answered[1:], [[60], TOO_MANY_ROWS, [60], [100], [100], *bit_answers("100"), [100],
                                        TOO_MANY_ROWS, TOO_MANY_ROWS, [100], NO_SUCH_ROW])
        self.assertEqual(ask(schema("{1a?b}"), add(bits("1" * 101)), add(bits("1" * 100)))[1:], [TOO_MANY_ROWS, [100]])

    def test_the_new_rows_alone_may_have_a_fault(self):
        answered = ask(schema("{1a%{1k!i8}}"), load(column_numbers([(0, 1, "5")])),
                       add(column_numbers([(0, 1, "1"), (1, 1, "1")])), add(column_numbers([(0, 1, "1")])), rows())
        self.assertEqual(answered[1:], [[1], FAULTY, [2], [2]])

    def test_put_loaded_and_added_mixed(self):
        answered = ask(schema("{1a?b}"), put("{a:1}"), add(bits("00")), put("{}"), add(bits("-1")), *shows(6),
                       load(bits("0")), put("{a:1}"), add(bits("-")), put("{a:0}"), *shows(5), entries(0, 0, 4))
        self.assertEqual(answered[1:5], [[0], [3], [3], [6]])
        self.assertEqual(answered[5:11], bit_answers("100--1"))
        self.assertEqual(answered[11:15], [[1], [1], [3], [3]])
        self.assertEqual(answered[15:], bit_answers("01-0") + [NO_SUCH_ROW, bits("01-0")])


class TestDrop(unittest.TestCase):
    CALLS = [schema("{1a?b}"), load(bits("10-1")), put("{a:0}")]

    def test_one(self):
        for number in range(5):
            left = "10-10"[:number] + "10-10"[number + 1:]
            with self.subTest(number=number):
                answered = ask(*self.CALLS, drop(number), rows(), *shows(5), entries(0, 0, 4), entries(0, 0, 5))
                self.assertEqual(answered[3:], [[0], [4], *bit_answers(left), NO_SUCH_ROW, bits(left), NO_SUCH_ROW])

    def test_no_row_of_this_number(self):
        for number in (-1, -2, -5, 5, 6, 99, 100, FAR, -FAR):
            with self.subTest(number=number):
                answered = ask(*self.CALLS, drop(number), rows(), entries(0, 0, 5))
                self.assertEqual(answered[3:], [NO_SUCH_ROW, [5], bits("10-10")])
        self.assertEqual(ask(schema("{1a?b}"), drop(0), drop(-1))[1:], [NO_SUCH_ROW, NO_SUCH_ROW])

    def test_all(self):
        answered = ask(*self.CALLS, drop(4), drop(4), drop(0), drop(1), entries(0, 0, 2), drop(0), drop(0), drop(0),
                       rows(), put("{}"), show(0))
        self.assertEqual(answered[3:], [[0], NO_SUCH_ROW, [0], [0], bits("01"), [0], [0], NO_SUCH_ROW, [0], [0],
                                        *bit_answers("-")])

    def test_makes_room_again(self):
        answered = ask(schema("{1a?b}"), load(bits("1" * 100)), put("{}"), add(bits("0")), drop(50), put("{}"), rows(),
                       show(99), drop(0), add(bits("0")), show(98), show(99), put("{}"))
        self.assertEqual(answered[2:], [TOO_MANY_ROWS, TOO_MANY_ROWS, [0], [99], [100], *bit_answers("-"), [0], [100],
                                        *bit_answers("-0"), TOO_MANY_ROWS])

    def test_numbers_behind_it(self):
        answered = ask(*self.CALLS, drop(1), put("{}"), add(bits("1")), rows(), *shows(6))
        self.assertEqual(answered[3:], [[0], [4], [6], [6], *bit_answers("1-10-1")])


if __name__ == "__main__":
    unittest.main()
