import unittest

from helper import (
    FAULTY, NESTED, NESTED_COLUMNS, NESTED_ROWS, SHAPES, SHAPES_ROW,
    ask, assemble, column_numbers, entries, last, put, schema, texts_answer,
)

SHAPES_COLUMNS = (
    [(0, 0, "5")], [(0, 0)], [(0, 1, '"a"'), (1, 1, '"b\\22"')], [(0, 1, "-1")], [(0, 1, "2")], [(0, 0)],
    [(0, 1, "7")], [(0, 1, '"a"'), (1, 1, '"b"')], [(0, 1), (1, 2, "3")],
)


class AssembleCase(unittest.TestCase):
    def assembled(self, schema_text, numbers, columns, *texts):
        with self.subTest(schema=schema_text, numbers=numbers):
            answered = last(schema(schema_text), assemble(numbers, column_numbers(*columns)))
            self.assertEqual(answered, texts_answer(*texts))


class TestExamples(AssembleCase):
    def test_all_columns(self):
        self.assembled(NESTED, [0, 1, 2], NESTED_COLUMNS, *NESTED_ROWS)
        self.assembled(SHAPES, list(range(9)), SHAPES_COLUMNS, SHAPES_ROW)

    def test_written_out(self):
        handed = [1, 0, 0, 1, 49]
        self.assertEqual(last(schema("{1a!b}"), assemble([0], handed)), [1, 5, 123, 97, 58, 49, 125])

    def test_some_columns_of_the_second_example(self):
        for numbers, texts in (
            ([0], ('{a:{b:"x","y"}}', "{}", "{a:{}}")),
            ([1], ("{c:{d:1},{d:0}}", "{}", "{}")),
            ([2], ("{c:{},{e:5}}", "{}", "{}")),
            ([0, 1], ('{a:{b:"x","y"};c:{d:1},{d:0}}', "{}", "{a:{}}")),
            ([0, 2], ('{a:{b:"x","y"};c:{},{e:5}}', "{}", "{a:{}}")),
            ([1, 2], ("{c:{d:1},{d:0;e:5}}", "{}", "{}")),
        ):
            self.assembled(NESTED, numbers, [NESTED_COLUMNS[number] for number in numbers], *texts)

    def test_some_columns_of_the_first_example(self):
        for numbers, text in (
            ([0], "{id:5}"),
            ([1], "{}"),
            ([2], '{tags:"a","b\\22"}'),
            ([3], "{pos:{x:-1}}"),
            ([4], "{pos:{y:2}}"),
            ([5], "{shape:<>}"),
            ([6], "{shape:<line:{len:7}>}"),
            ([7], '{attr:{key:"a"},{key:"b"}}'),
            ([8], "{attr:{},{val:3}}"),
            ([0, 4, 5, 8], "{id:5;pos:{y:2};shape:<>;attr:{},{val:3}}"),
        ):
            self.assembled(SHAPES, numbers, [SHAPES_COLUMNS[number] for number in numbers], text)


class TestNothingLeft(AssembleCase):
    def test_records(self):
        self.assembled("{1a?{1c?b;2d?b}}", [0], [[(0, 1), (0, 0), (0, 2, "1")]], "{a:{}}", "{}", "{a:{c:1}}")
        self.assembled("{1a*{1c?b;2d?b}}", [1], [[(0, 1), (1, 1), (1, 2, "0")]], "{a:{},{},{d:0}}")
        self.assembled("{1a!{1c?b;2d!b}}", [0], [[(0, 0)]], "{a:{}}")
        self.assembled("{1a%{1k!b;2c?b}}", [1], [[(0, 1), (1, 1), (0, 0)]], "{a:{},{}}", "{}")
        self.assembled("{1a!{1c!{1d?b}}}", [0], [[(0, 0)]], "{a:{c:{}}}")

    def test_choices(self):
        text = "{1a!<1c!b;2d!{1e?b;2f?b};3g!b>}"
        self.assembled(text, [0], [[(0, 0), (0, 1, "1")]], "{a:<>}", "{a:<c:1>}")
        self.assembled(text, [1], [[(0, 0), (0, 1), (0, 2, "1")]], "{a:<>}", "{a:<d:{}>}", "{a:<d:{e:1}>}")
        self.assembled(text, [0, 3], [[(0, 0)], [(0, 0)]], "{a:<>}")
        self.assembled("{1a*<1c!b;2d!b>}", [1], [[(0, 1), (1, 2, "1"), (1, 1), (0, 0)]], "{a:<>,<d:1>,<>}", "{}")
        self.assembled("{1a?<1c!b;2d!b>}", [0], [[(0, 1), (0, 0)]], "{a:<>}", "{}")

    def test_choices_in_choices(self):
        text = "{1a!<1c!<1d!b;2e!b>;2f!b>}"
        self.assembled(text, [0], [[(0, 0), (0, 1), (0, 2, "1")]], "{a:<>}", "{a:<c:<>>}", "{a:<c:<d:1>>}")
        self.assembled(text, [2], [[(0, 0), (0, 1, "1")]], "{a:<>}", "{a:<f:1>}")

    def test_fields_are_left_out_with_all_within_them(self):
        text = "{1a!b;2c!{1d!{1e!b};2f?b};3g*{1h!b};4i!<1j!b>}"
        self.assembled(text, [2], [[(0, 0), (0, 1, "1")]], "{c:{}}", "{c:{f:1}}")
        self.assembled(text, [1], [[(0, 0, "1")]], "{c:{d:{e:1}}}")
        self.assembled(text, [0], [[(0, 0, "1")]], "{a:1}")
        self.assembled(text, [3], [[(0, 0)]], "{}")
        self.assembled(text, [4], [[(0, 1, "0")]], "{i:<j:0>}")


class TestRows(AssembleCase):
    def test_no_rows(self):
        self.assembled(NESTED, [0, 1, 2], [[], [], []])
        self.assembled(NESTED, [1], [[]])
        self.assertEqual(last(schema("{1a!b}"), assemble([0], [0])), [0])

    def test_more_rows_than_may_be_kept(self):
        self.assembled("{1a?b}", [0], [[(0, 0)] * 101], *["{}"] * 101)
        self.assembled("{1a?b}", [0], [[(0, 1, "1")] * 1000], *["{a:1}"] * 1000)

    def test_texts_longer_than_a_row_s(self):
        literal = '"' + "x" * 999 + '"'
        told = [(0, 1, literal)] + [(1, 1, literal)] * 4
        self.assembled("{1a*t999}", [0], [told], "{a:" + ",".join([literal] * 5) + "}")
        gaps = [(0, 1)] + [(1, 1)] * 999
        self.assembled("{1abcdefghijkl*{1c?b}}", [0], [gaps],
                       "{abcdefghijkl:" + ",".join(["{}"] * 1000) + "}")
        deep = "{1a*{1abcdefghijkl!{1abcdefghijkl!{1abcdefghijkl!{1abcdefghijkl!{1abcdefghijkl!b}}}}}}"
        told = [(0, 1, "1")] + [(1, 1, "1")] * 999
        one = "{" + "abcdefghijkl:{" * 4 + "abcdefghijkl:1" + "}" * 5
        self.assembled(deep, [0], [told], "{a:" + ",".join([one] * 1000) + "}")

    def test_literals_stand_as_they_were_handed(self):
        self.assembled("{1a!i64;2c!t9;3d!b}", [0, 1, 2],
                       [[(0, 0, "-9223372036854775808")], [(0, 0, '"\\00 ~\\7f\\22\\5c"')], [(0, 0, "0")]],
                       '{a:-9223372036854775808;c:"\\00 ~\\7f\\22\\5c";d:0}')

    def test_six_deep(self):
        self.assembled("{1a*{1a*{1a*{1a*{1a*{1a*b}}}}}}", [0],
                       [[(0, 6, "1"), (6, 6, "1"), (5, 6, "0"), (4, 4), (1, 1), (0, 0), (0, 3)]],
                       "{a:{a:{a:{a:{a:{a:1,1},{a:0}},{}}}},{}}", "{}", "{a:{a:{a:{}}}}")

    def test_a_fault(self):
        for handed in ([1, 2, 0], [1, 0, 1, 1, 50], [1, 1, 0], [2, 0, 0, 1, 1, 1, 49]):
            with self.subTest(handed=handed):
                self.assertEqual(last(schema("{1a*b}"), assemble([0], handed)), FAULTY)
        self.assertEqual(last(schema("{1a!<1c!b>}"), assemble([0], [1, 0, 0])), FAULTY)

    def test_what_entries_tells(self):
        calls = [schema(SHAPES), put(SHAPES_ROW), put('{id:1;name:"n";shape:<dot:0>}')]
        told = ask(*calls, *[entries(number, 0, 2) for number in range(9)])[3:]
        answered = last(*calls, assemble(range(9), [number for column in told for number in column]))
        self.assertEqual(answered, texts_answer(SHAPES_ROW, '{id:1;name:"n";shape:<dot:0>}'))


if __name__ == "__main__":
    unittest.main()
