import unittest

from helper import (
    FAR, NESTED, NESTED_ROWS, NO_SUCH_ROW, SHAPES, SHAPES_ROW, TOO_MANY_ROWS, WRONG_TEXT,
    ask, entries, last, put, rows, schema, show, text_answer,
)


class RowCase(unittest.TestCase):
    def taken(self, schema_text, *texts):
        for text in texts:
            with self.subTest(schema=schema_text, row=text):
                answered = ask(schema(schema_text), put(text), rows(), show(0))
                self.assertEqual(answered, [[0], [0], [1], text_answer(text)])

    def refused(self, schema_text, *texts):
        for text in texts:
            with self.subTest(schema=schema_text, row=text):
                self.assertEqual(ask(schema(schema_text), put(text), rows()), [[0], WRONG_TEXT, [0]])


class TestWholeRows(RowCase):
    def test_examples(self):
        self.taken(SHAPES, SHAPES_ROW)
        self.taken(NESTED, *NESTED_ROWS)

    def test_every_beginning_of_the_example_is_refused(self):
        self.refused(SHAPES, *(SHAPES_ROW[:length] for length in range(len(SHAPES_ROW))))

    def test_nothing_stands_behind_the_end(self):
        self.refused("{1a?b}", "{}{}", "{}}", "{a:1};", "{a:1} ", "{a:1}\n", "{a:1}\0", "{a:1},{a:1}")

    def test_no_blanks(self):
        self.refused("{1a?b;2c*b}", " {}", "{ }", "{a :1}", "{a: 1}", "{a:1 }", "{a:1; c:1}", "{c:1, 0}")

    def test_not_in_the_form(self):
        self.refused("{1a?b;2c?b}", "", "a:1", "<a:1>", "{a:1>", "{a}", "{a=1}", "{a1}", "{:1}", "{a:}", "{a:1,c:1}",
                     "{a:1c:1}", "{a:1;;c:1}", "{;a:1}", "{a:1;}", "{;}", "{a:{}}", "{1a:1}", "{1:1}", '{"a":1}')

    def test_length(self):
        quoted = '"' + "x" * 997 + '"'
        four = "{a:" + ",".join([quoted] * 4) + "}"
        self.assertEqual(len(four), 4003)
        self.taken("{1a*t999}", four.replace("xxxx", "", 1), four.replace("xxx", "", 1))
        self.refused("{1a*t999}", four.replace("xx", "", 1), four, "{a:" + "," * 4997)

    def test_length_counts_signs_as_they_are_written(self):
        quoted = '"' + "\\00" * 666 + '"'
        two = "{a:" + quoted + "," + quoted + "}"
        self.assertEqual(len(two), 4005)
        self.refused("{1a*t999}", two)
        self.taken("{1a*t999}", two.replace("\\00\\00", "", 1))

    def test_many_occurrences(self):
        self.taken("{1a*{1b?b}}", "{a:" + ",".join(["{}"] * 1332) + "}")


class TestRecords(RowCase):
    def test_a_record_without_occurrences(self):
        self.taken("{1a?b;2c*b;3d%{1k!b}}", "{}")

    def test_a_field_twice(self):
        self.refused("{1a?b;2c*b}", "{a:1;a:1}", "{c:1;c:0}", "{a:1;c:1;c:0}", "{a:1;c:1;a:1}")

    def test_fields_out_of_order(self):
        self.taken("{1b?b;2a?b}", "{b:1;a:1}")
        self.refused("{1b?b;2a?b}", "{a:1;b:1}")
        self.refused("{1x?{1b?b;2a?b}}", "{x:{a:1;b:1}}")

    def test_a_field_that_is_none_of_the_schema(self):
        self.refused("{1a?b;2ab?b}", "{b:1}", "{a:1;c:1}", "{abc:1}", "{A:1}")
        self.refused("{1x?{1a?b};2y?b}", "{a:1}", "{x:{y:1}}", "{x:{x:1}}")

    def test_names_that_begin_with_one_another(self):
        self.taken("{1a?b;2ab?b;3abc?b}", "{ab:1}", "{a:1;abc:1}", "{abc:0}", "{a:0;ab:0;abc:0}")
        self.taken("{1abc?b;2ab?b;3a?b}", "{abc:1;a:1}", "{ab:0;a:1}")

    def test_missing_where_the_mode_asks_for_one(self):
        self.taken("{1a!b;2c!b}", "{a:1;c:0}")
        self.refused("{1a!b;2c!b}", "{}", "{a:1}", "{c:1}")
        self.refused("{1x?{1a!b}}", "{x:{}}")
        self.refused("{1x!{1a?b}}", "{}")
        self.taken("{1x!{1a?b}}", "{x:{}}")
        self.refused("{1x!<1a!b>}", "{}")
        self.refused("{1x%{1k!b;2v?b}}", "{x:{}}", "{x:{v:1}}")

    def test_a_default_does_not_stand_for_a_missing_field(self):
        self.refused("{1a!b=1}", "{}")
        self.taken("{1a!b=1}", "{a:1}", "{a:0}")

    def test_a_second_occurrence_where_only_one_may_be(self):
        self.refused("{1a!b}", "{a:1,1}", "{a:1,0}")
        self.refused("{1a?b}", "{a:1,1}")
        self.refused("{1a?{1b?b}}", "{a:{},{}}")
        self.refused("{1a!<1b!b>}", "{a:<b:1>,<b:1>}")
        self.refused("{1a!<1b!b>}", "{a:<b:1,0>}")

    def test_an_empty_list_of_occurrences(self):
        self.refused("{1a*b;2c?b;3d*t3;4e%{1k!b};5f*{1x?b}}", "{a:}", "{a:;c:1}", "{c:}", "{d:}", "{e:}", "{f:}")

    def test_commas_stand_between_occurrences(self):
        self.taken("{1a*b;2c?b}", "{a:1}", "{a:1,0,1,1}", "{a:1,1;c:1}")
        self.refused("{1a*b;2c?b}", "{a:1,}", "{a:,1}", "{a:1,,1}", "{a:1;1}", "{a:1,;c:1}", "{a:11}")

    def test_six_deep(self):
        deep = "{1a?{1a?{1a?{1a?{1a?{1a?b}}}}}}"
        self.taken(deep, "{}", "{a:{a:{}}}", "{a:{a:{a:{a:{a:{}}}}}}", "{a:{a:{a:{a:{a:{a:1}}}}}}")
        self.refused(deep, "{a:{a:{a:{a:{a:{a:{}}}}}}}", "{a:" * 1000, "{" * 4000)


class TestChoices(RowCase):
    def test_one_field_is_taken(self):
        text = "{1a!<1b!b;2c!i8;3d!{1x?b}>}"
        self.taken(text, "{a:<b:1>}", "{a:<c:-8>}", "{a:<d:{}>}", "{a:<d:{x:1}>}")
        self.refused(text, "{a:<>}", "{a:<e:1>}", "{a:<b:>}", "{a:<b>}", "{a:b:1}", "{a:{b:1}}", "{a:<b:1}}")

    def test_not_two(self):
        text = "{1a!<1b!b;2c!i8>}"
        self.refused(text, "{a:<b:1;c:1>}", "{a:<b:1c:1>}", "{a:<b:1,c:1>}", "{a:<b:1><c:1>}", "{a:<b:1;b:1>}",
                     "{a:<b:1>;a:<c:1>}", "{a:<b:1;>}")

    def test_in_a_list(self):
        self.taken("{1a*<1b!b;2c!i8>}", "{}", "{a:<b:1>,<c:1>,<b:0>}")
        self.taken("{1a?<1b!b>}", "{}", "{a:<b:1>}")

    def test_in_one_another(self):
        text = "{1a!<1b!<1c!b;2d!b>;2e!b>}"
        self.taken(text, "{a:<b:<c:1>>}", "{a:<b:<d:1>>}", "{a:<e:1>}")
        self.refused(text, "{a:<b:<>>}", "{a:<c:1>}", "{a:<b:<c:1>}", "{a:<b:<e:1>>}")


class TestKeys(RowCase):
    def test_bits_rise(self):
        text = "{1a%{1k!b}}"
        self.taken(text, "{a:{k:0}}", "{a:{k:1}}", "{a:{k:0},{k:1}}")
        self.refused(text, "{a:{k:1},{k:0}}", "{a:{k:0},{k:0}}", "{a:{k:0},{k:1},{k:1}}", "{a:{k:0},{k:1},{k:0}}")

    def test_whole_numbers_rise_by_number(self):
        text = "{1a%{1k!i16}}"
        self.taken(text, "{a:{k:9},{k:10}}", "{a:{k:-10},{k:-9},{k:0},{k:2},{k:100}}", "{a:{k:-32768},{k:32767}}",
                   "{a:{k:-1},{k:0},{k:1}}")
        self.refused(text, "{a:{k:10},{k:9}}", "{a:{k:-9},{k:-10}}", "{a:{k:5},{k:5}}", "{a:{k:0},{k:-1}}",
                     "{a:{k:1},{k:3},{k:2}}", "{a:{k:1},{k:2},{k:1}}")

    def test_texts_rise_by_their_bytes(self):
        text = "{1a%{1k!t4}}"
        self.taken(text, '{a:{k:""},{k:"a"},{k:"ab"},{k:"b"}}', '{a:{k:"B"},{k:"a"}}', '{a:{k:"10"},{k:"9"}}')
        self.refused(text, '{a:{k:"ab"},{k:"a"}}', '{a:{k:"a"},{k:"a"}}', '{a:{k:"b"},{k:"aa"}}', '{a:{k:""},{k:""}}')

    def test_texts_are_not_ordered_as_they_are_written(self):
        text = "{1a%{1k!t4}}"
        self.taken(text, '{a:{k:"!"},{k:"\\22"},{k:"#"}}', '{a:{k:"a"},{k:"\\ff"}}', '{a:{k:"a"},{k:"a\\00"}}',
                   '{a:{k:"["},{k:"\\5c"},{k:"]"}}', '{a:{k:"\\00"},{k:" "}}', '{a:{k:"a"},{k:"a!"}}')
        self.refused(text, '{a:{k:"\\ff"},{k:"a"}}', '{a:{k:"#"},{k:"\\22"}}', '{a:{k:"a"},{k:"\\00"}}')

    def test_only_the_key_rises(self):
        self.taken("{1a%{1k!i8;2v!i8}}", "{a:{k:1;v:9},{k:2;v:8},{k:3;v:8}}")
        self.taken("{1a*{1k!i8}}", "{a:{k:2},{k:1},{k:1}}")

    def test_each_list_by_itself(self):
        text = "{1a*{1b%{1k!i8}}}"
        self.taken(text, "{a:{b:{k:5},{k:6}},{b:{k:1},{k:5}}}")
        self.refused(text, "{a:{b:{k:5},{k:6}},{b:{k:5},{k:1}}}")


class TestLiterals(RowCase):
    def test_bits(self):
        self.taken("{1a!b}", "{a:0}", "{a:1}")
        self.refused("{1a!b}", "{a:2}", "{a:-1}", "{a:01}", "{a:00}", "{a:10}", '{a:"1"}', "{a:-0}", "{a:t}", "{a:/}")

    def test_whole_numbers_in_their_range(self):
        for size in (2, 3, 8, 16, 32, 63, 64):
            half = 2 ** (size - 1)
            text = f"{{1a!i{size}}}"
            self.taken(text, f"{{a:{half - 1}}}", f"{{a:{-half}}}", "{a:0}", "{a:1}", "{a:-1}")
            self.refused(text, f"{{a:{half}}}", f"{{a:{-half - 1}}}", f"{{a:{half * 10}}}", "{a:" + "9" * 3990 + "}")

    def test_whole_numbers_in_their_form(self):
        self.refused("{1a!i16}", "{a:00}", "{a:01}", "{a:-0}", "{a:-01}", "{a:+1}", "{a:-}", "{a:--1}", "{a:1-}",
                     "{a:1.0}", "{a:0x1}", "{a:1e1}", '{a:"1"}', "{a:1_0}", "{a:0-1}")

    def test_texts_in_their_length(self):
        self.taken("{1a!t3}", '{a:""}', '{a:"abc"}', '{a:"\\00\\01\\02"}', '{a:"a\\22b"}')
        self.refused("{1a!t3}", '{a:"abcd"}', '{a:"\\00\\01\\02\\03"}', '{a:"a\\22bc"}')
        self.taken("{1a!t999}", '{a:"' + "x" * 999 + '"}', '{a:"' + "\\ff" * 999 + '"}')
        self.refused("{1a!t999}", '{a:"' + "x" * 1000 + '"}', '{a:"' + "\\ff" * 1000 + '"}')

    def test_every_byte_is_written_in_one_way(self):
        for byte in range(256):
            told = f'{{a:"\\{byte:02x}"}}'
            itself = [*b'{a:"', byte, *b'"}']
            plain = 32 <= byte <= 126 and byte not in b'"\\'
            with self.subTest(byte=byte):
                answered = ask(schema("{1a!t3}"), put(told), put(itself))
                self.assertEqual(answered[1:], [WRONG_TEXT, [0]] if plain else [[0], WRONG_TEXT])

    def test_texts_in_their_form(self):
        self.taken("{1a!t9;2b?b}", '{a:"};{<>,:"}', '{a:"\\22;b:1"}', '{a:"\\5c";b:1}')
        self.refused("{1a!t9}", "{a:abc}", "{a:'a'}", '{a:"abc}', '{a:abc"}', '{a:"a"b"}', '{a:"\\"}', '{a:"\\""}',
                     '{a:"\\2"}', '{a:"\\"22"}', '{a:"\\5C"}', '{a:"\\FF"}', '{a:"\\0g"}', '{a:"\\g0"}', '{a:"\\n"}',
                     '{a:"\\x00"}', '{a:"a""b"}', '{a:1}', '{a:"\\', '{a:"\\0', '{a:"')


class TestPutRowsShow(unittest.TestCase):
    def test_numbers_count_from_zero(self):
        answered = ask(schema(NESTED), rows(), *[put(text) for text in NESTED_ROWS], rows(), show(2), show(0), show(1))
        self.assertEqual(answered[1:6], [[0], [0], [1], [2], [3]])
        self.assertEqual(answered[6:], [text_answer(NESTED_ROWS[place]) for place in (2, 0, 1)])

    def test_shown_as_numbers(self):
        self.assertEqual(last(schema("{1a!b}"), put("{a:1}"), show(0)), [5, 123, 97, 58, 49, 125])

    def test_equal_rows_are_two_rows(self):
        self.assertEqual(ask(schema("{1a!b}"), put("{a:1}"), put("{a:1}"), rows()), [[0], [0], [1], [2]])

    def test_a_refused_row_changes_nothing(self):
        answered = ask(schema("{1a!b}"), put("{a:1}"), put("{a:2}"), rows(), show(0), show(1), entries(0, 0, 1),
                       entries(0, 0, 2), put("{a:0}"))
        self.assertEqual(answered[2:], [WRONG_TEXT, [1], text_answer("{a:1}"), NO_SUCH_ROW, [1, 0, 0, 1, 49],
                                        NO_SUCH_ROW, [1]])

    def test_the_hundredth_and_the_next(self):
        answered = ask(schema("{1a!i16}"), *[put(f"{{a:{n}}}") for n in range(100)], rows(), put("{a:7}"), rows(),
                       show(99), show(100), put("{a:x}"), put(""), put("x" * 5000), rows())
        self.assertEqual(answered[1:101], [[n] for n in range(100)])
        self.assertEqual(answered[101:], [[100], TOO_MANY_ROWS, [100], text_answer("{a:99}"), NO_SUCH_ROW,
                                          WRONG_TEXT, WRONG_TEXT, WRONG_TEXT, [100]])

    def test_a_new_schema_makes_room_again(self):
        answered = ask(schema("{1a!b}"), *[put("{a:1}")] * 100, put("{a:1}"), schema("{1a!b}"), put("{a:1}"), rows())
        self.assertEqual(answered[101:], [TOO_MANY_ROWS, [0], [0], [1]])

    def test_show_of_no_row(self):
        for number in (-1, 2, 3, -2, 99, 100, FAR, -FAR):
            with self.subTest(number=number):
                self.assertEqual(last(schema("{1a!b}"), put("{a:1}"), put("{a:0}"), show(number)), NO_SUCH_ROW)
        self.assertEqual(last(schema("{1a!b}"), show(0)), NO_SUCH_ROW)


if __name__ == "__main__":
    unittest.main()
