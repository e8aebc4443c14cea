"""The faults that one column has by itself: kinds 1 to 4."""

import unittest

from helper import FAR, FAULTY, NESTED, NESTED_COLUMNS, FaultCase, add, check, column_numbers, last, load, schema


class TestNoFault(FaultCase):
    def test_the_example(self):
        self.fine(3, NESTED, [0, 1, 2], *NESTED_COLUMNS)
        for number in range(3):
            self.fine(3, NESTED, [number], NESTED_COLUMNS[number])
        self.fine(3, NESTED, [0, 2], NESTED_COLUMNS[0], NESTED_COLUMNS[2])

    def test_no_entries(self):
        self.fine(0, NESTED, [0, 1, 2], [], [], [])
        self.fine(0, "{1a!b}", [0], [])


class TestLevelTooGreat(FaultCase):
    def test_repetition(self):
        self.fault(1, 0, 1, "{1a?b}", [0], [(0, 0), (1, 0)])
        self.fault(1, 0, 0, "{1a?b}", [0], [(1, 0)])
        self.fault(1, 0, 1, "{1a*b}", [0], [(0, 1, "1"), (2, 1, "1")])
        self.fine(1, "{1a*b}", [0], [(0, 1, "1"), (1, 1, "1")])
        self.fine(1, "{1a*{1c*b}}", [0], [(0, 2, "1"), (2, 2, "1")])
        self.fault(1, 0, 1, "{1a*{1c*b}}", [0], [(0, 2, "1"), (3, 2, "1")])

    def test_definition(self):
        self.fault(1, 0, 0, "{1a!b}", [0], [(0, 1)])
        self.fine(1, "{1a!b}", [0], [(0, 0, "1")])
        self.fault(1, 0, 0, "{1a?b}", [0], [(0, 2)])
        self.fine(1, "{1a?{1c?b}}", [0], [(0, 2, "1")])
        self.fault(1, 0, 2, "{1a?{1c?b}}", [0], [(0, 2, "1"), (0, 1), (0, 3)])
        self.fine(1, "{1a?<1c!b;2d!b>}", [0], [(0, 2, "1")])
        self.fault(1, 0, 0, "{1a?<1c!b;2d!b>}", [0], [(0, 3)])

    def test_six(self):
        deep = "{1a*{1a*{1a*{1a*{1a*{1a*b}}}}}}"
        self.fine(1, deep, [0], [(0, 6, "1"), (6, 6, "1")])
        self.fault(1, 0, 1, deep, [0], [(0, 6, "1"), (7, 6, "1")])
        self.fault(1, 0, 1, deep, [0], [(0, 6, "1"), (6, 7)])

    def test_far(self):
        self.fault(1, 0, 0, "{1a*b}", [0], [(FAR, 0)])
        self.fault(1, 0, 0, "{1a*b}", [0], [(0, FAR)])
        self.fault(1, 0, 0, "{1a*b}", [0], [(FAR, FAR)])

    def test_each_column_has_its_own_levels(self):
        self.fault(1, 1, 1, "{1a*b;2c?b}", [0, 1], [(0, 1, "1"), (1, 1, "1")], [(0, 1, "1"), (1, 1, "1")])
        self.fault(1, 0, 1, "{1a*b;2c?b}", [1], [(0, 1, "1"), (1, 1, "1")])


class TestNoLiteral(FaultCase):
    def literals(self, kind_text, right, wrong):
        for text in right:
            self.fine(1, f"{{1a!{kind_text}}}", [0], [(0, 0, text)])
        for text in wrong:
            self.fault(2, 0, 0, f"{{1a!{kind_text}}}", [0], [(0, 0, text)])

    def test_bits(self):
        self.literals("b", ["0", "1"], ["", "2", "/", "-1", "-0", "00", "01", "10", "0 ", " 0", '"1"', "b", "1\n", "\0"])

    def test_whole_numbers(self):
        self.literals("i8", ["0", "1", "-1", "127", "-128", "100", "9"],
                      ["", "-", "-0", "00", "01", "-01", "+1", "128", "-129", "1270", "999", "-999", "1 ", " 1", "1-",
                       "--1", "a", "1a", '"1"', "0-", "00", "0x1", "9" * 3000, "-" + "9" * 3000, "0" * 3000])
        self.literals("i2", ["-2", "-1", "0", "1"], ["2", "-3", "10", "-20"])
        self.literals("i64", ["9223372036854775807", "-9223372036854775808"],
                      ["9223372036854775808", "-9223372036854775809", "09223372036854775807"])

    def test_texts(self):
        self.literals("t2", ['""', '"a"', '"ab"', '"\\22\\5c"', '"\\00\\ff"', '" ~"'],
                      ["", '"', '"a', 'a"', "a", '"abc"', '"\\00\\01\\02"', '"\\"', '"\\2"', '"\\61"', '"\\FF"',
                       '"\\0g"', '"\n"', '"\x7f"', '"\xff"', '""a', '"a""', '"a" ', ' "a"', '"""', "1", "''", '"\\0',
                       '"\\'])
        self.literals("t999", ['"' + "x" * 999 + '"', '"' + "\\ff" * 999 + '"'],
                      ['"' + "x" * 1000 + '"', '"' + "\\ff" * 1000 + '"'])

    def test_every_byte(self):
        for byte in range(256):
            plain = 32 <= byte <= 126 and byte not in b'"\\'
            handed = [1, 0, 0, 3, 34, byte, 34]
            told = [1, 0, 0, 5] + list(b'"\\%02x"' % byte)
            with self.subTest(byte=byte):
                self.assertEqual(last(schema("{1a!t1}"), check([0], handed)), [0, 1, 0] if plain else [2, 0, 0])
                self.assertEqual(last(schema("{1a!t1}"), check([0], told)), [2, 0, 0] if plain else [0, 1, 0])

    def test_literals_of_another_column(self):
        text = "{1a!b;2c!i8;3d!t3}"
        self.fine(1, text, [0, 1, 2], [(0, 0, "1")], [(0, 0, "7")], [(0, 0, '"7"')])
        self.fault(2, 0, 0, text, [0, 1, 2], [(0, 0, "7")], [(0, 0, "7")], [(0, 0, '"7"')])
        self.fault(2, 1, 0, text, [0, 1, 2], [(0, 0, "1")], [(0, 0, '"7"')], [(0, 0, '"7"')])
        self.fault(2, 2, 0, text, [0, 1, 2], [(0, 0, "1")], [(0, 0, "7")], [(0, 0, "7")])

    def test_place(self):
        self.fault(2, 0, 2, "{1a*b}", [0], [(0, 0), (0, 1, "1"), (1, 1, "2"), (1, 1, "3")])
        self.fault(2, 1, 1, "{1a?b;2c?b;3d?b}", [0, 2], [(0, 0), (0, 0)], [(0, 0), (0, 1, "x")])


class TestNoBeginning(FaultCase):
    def test_the_first_entry(self):
        self.fault(3, 0, 0, "{1a*b}", [0], [(1, 1, "1")])
        self.fault(3, 0, 0, "{1a*b}", [0], [(1, 1, "1"), (0, 1, "1")])
        self.fault(3, 0, 0, "{1a*{1c*b}}", [0], [(2, 2, "1")])
        self.fault(3, 0, 0, "{1a%{1k!b}}", [0], [(1, 1, "1")])

    def test_of_each_column(self):
        begun = [(0, 1, "1"), (1, 1, "1")]
        self.fault(3, 1, 0, "{1a*b;2c*b}", [0, 1], begun, [(1, 1, "1"), (1, 1, "1")])
        self.fault(3, 0, 0, "{1a*b;2c*b}", [0, 1], [(1, 1, "1"), (1, 1, "1")], begun)

    def test_looked_at_before_kind_four(self):
        self.fault(3, 0, 0, "{1a*b}", [0], [(1, 0)])


class TestNothingRepeated(FaultCase):
    def test_this_entry_has_a_gap(self):
        self.fault(4, 0, 1, "{1a*b}", [0], [(0, 1, "1"), (1, 0)])
        self.fine(1, "{1a*{1c?b}}", [0], [(0, 2, "1"), (1, 1)])
        self.fault(4, 0, 1, "{1a*{1c?b}}", [0], [(0, 2, "1"), (1, 0)])

    def test_the_entry_before_has_a_gap(self):
        self.fault(4, 0, 1, "{1a*b}", [0], [(0, 0), (1, 1, "1")])
        self.fine(1, "{1a*{1c?b}}", [0], [(0, 1), (1, 2, "1")])
        self.fault(4, 0, 1, "{1a*{1c?b}}", [0], [(0, 0), (1, 1)])

    def test_the_entry_before_alone_is_asked(self):
        self.fault(4, 0, 2, "{1a*b}", [0], [(0, 1, "1"), (0, 0), (1, 1, "1")])
        self.fault(4, 0, 2, "{1a*{1c*b}}", [0], [(0, 2, "1"), (1, 1), (2, 2, "1")])

    def test_the_field_that_is_repeated(self):
        for outer in ("*{", "%{1k!b;"):
            for inner in ("*{", "%{1k!b;"):
                text = f"{{1a{outer}3c{inner}3d?b}}}}}}"
                number = outer.count("k") + inner.count("k")
                # The levels of d are 2 and 3; a is reached at 1, c at 2.
                self.fine(1, text, [number], [(0, 1), (1, 1)])
                self.fine(1, text, [number], [(0, 2), (2, 3, "1"), (1, 1)])
                self.fine(1, text, [number], [(0, 1), (1, 2), (2, 2)])
                self.fault(4, 0, 1, text, [number], [(0, 1), (2, 2)])
                self.fault(4, 0, 1, text, [number], [(0, 2), (2, 1)])
                self.fault(4, 0, 1, text, [number], [(0, 1), (2, 1)])
                self.fault(4, 0, 1, text, [number], [(0, 0), (1, 1)])
                self.fault(4, 0, 1, text, [number], [(0, 1), (1, 0)])
                self.fault(4, 0, 2, text, [number], [(0, 2), (1, 1), (2, 2)])

    def test_fields_between_that_do_not_repeat(self):
        text = "{1a?{1b*{1c!{1d?{1e*<1f!b;2g!b>}}}}}"
        # The levels of f are 2 and 5; b is reached at 2, e at 4.
        self.fine(1, text, [0], [(0, 2), (1, 2), (1, 3), (1, 4), (2, 4), (2, 5, "1")])
        self.fault(4, 0, 1, text, [0], [(0, 1), (1, 2)])
        self.fault(4, 0, 1, text, [0], [(0, 2), (1, 1)])
        self.fault(4, 0, 1, text, [0], [(0, 3), (2, 4)])
        self.fault(4, 0, 1, text, [0], [(0, 4), (2, 3)])
        self.fault(4, 0, 1, text, [0], [(0, 5, "1"), (2, 2)])

    def test_place(self):
        self.fault(4, 1, 2, "{1a?b;2c*b}", [0, 1], [(0, 0), (0, 0)], [(0, 1, "1"), (1, 1, "1"), (1, 0)])


class TestOrder(FaultCase):
    TEXT = "{1a*b}"

    def test_of_the_kinds_at_one_entry(self):
        self.fault(1, 0, 0, self.TEXT, [0], [(2, 1, "x")])
        self.fault(2, 0, 0, self.TEXT, [0], [(1, 1, "x")])
        self.fault(1, 0, 0, self.TEXT, [0], [(1, 2)])
        self.fault(3, 0, 0, self.TEXT, [0], [(1, 0)])
        self.fault(1, 0, 1, self.TEXT, [0], [(0, 0), (2, 0)])
        self.fault(2, 0, 1, self.TEXT, [0], [(0, 0), (1, 1, "x")])
        self.fault(1, 0, 1, self.TEXT, [0], [(0, 0), (1, 2)])

    def test_of_the_entries_in_one_column(self):
        self.fault(3, 0, 0, self.TEXT, [0], [(1, 1, "1"), (2, 1, "1")])
        self.fault(2, 0, 0, self.TEXT, [0], [(0, 1, "x"), (2, 1, "1"), (1, 0)])
        self.fault(4, 0, 1, self.TEXT, [0], [(0, 0), (1, 1, "1"), (2, 1, "x"), (0, 1, "x")])
        self.fault(2, 0, 1, self.TEXT, [0], [(0, 1, "1"), (0, 1, "x"), (5, 5)])

    def test_of_the_columns(self):
        text = "{1a*b;2c*b;3d*b}"
        right = [(0, 1, "1")]
        wrong = {1: [(2, 0)], 2: [(0, 1, "x")], 3: [(1, 0)], 4: [(0, 0), (1, 1, "1")]}
        for kind in wrong:
            for other in wrong:
                place = int(kind == 4)
                self.fault(kind, 0, place, text, [0, 1, 2], wrong[kind], wrong[other], right)
                self.fault(kind, 1, place, text, [0, 1, 2], right, wrong[kind], wrong[other])
                self.fault(kind, 1, place, text, [0, 2], right, wrong[kind])

    def test_kind_five_comes_only_where_there_is_no_other(self):
        text = "{1a*b;2c*b;3d*b}"
        self.fault(5, 1, 0, text, [0, 1, 2], [(0, 0)], [(0, 0), (0, 0)], [(0, 0)])
        for kind, wrong in ((1, (2, 0)), (2, (0, 1, "x")), (4, (1, 0))):
            self.fault(kind, 2, 1, text, [0, 1, 2], [(0, 0)], [(0, 0), (0, 0)], [(0, 0), wrong])
        self.fault(3, 2, 0, text, [0, 1, 2], [(0, 0)], [(0, 0), (0, 0)], [(1, 1, "1")])
        # Keys that fall, ahead of a literal that is none.
        keyed = "{1a%{1k!i8;2v?b}}"
        self.fault(5, 0, 0, keyed, [0, 1], [(0, 1, "2"), (1, 1, "1")], [(0, 1), (1, 1)])
        self.fault(2, 1, 1, keyed, [0, 1], [(0, 1, "2"), (1, 1, "1")], [(0, 1), (1, 2, "2")])

    def test_the_last_of_a_thousand(self):
        many = [(0, 1, "1")] + [(1, 1, "1")] * 998
        self.fine(1, self.TEXT, [0], many + [(1, 1, "1")])
        self.fault(4, 0, 999, self.TEXT, [0], many + [(1, 0)])
        self.fault(2, 0, 999, self.TEXT, [0], many + [(1, 1, "2")])
        self.fault(1, 0, 999, self.TEXT, [0], many + [(2, 1, "1")])

    def test_load_and_add_refuse_each_kind(self):
        for wrong in ([(2, 0)], [(0, 1, "x")], [(1, 0)], [(0, 0), (1, 1, "1")]):
            for call in (load, add):
                with self.subTest(wrong=wrong, call=call.__name__):
                    self.assertEqual(last(schema(self.TEXT), call(column_numbers(wrong))), FAULTY)


if __name__ == "__main__":
    unittest.main()
