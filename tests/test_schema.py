import unittest

from helper import (
    FAR, NESTED, NO_SCHEMA, NO_SUCH_COLUMN, SHAPES, WRONG_TEXT,
    ask, column, entries, last, put, rows, schema, show, text_answer,
)


def nested_records(depth):
    """Records in one another; the outermost is at depth 1."""
    return "{1a!" * depth + "b" + "}" * depth


def many_leaves(count):
    return "{" + ";".join(f"{n}f{n}!b" for n in range(1, count + 1)) + "}"


def schema_of_length(length):
    fixed = '{1a!t999="";2b!t999="";3c!t999=""}'
    rest = length - len(fixed)
    parts = []
    for _ in range(3):
        parts.append("x" * min(999, rest))
        rest -= len(parts[-1])
    text = '{{1a!t999="{}";2b!t999="{}";3c!t999="{}"}}'.format(*parts)
    assert len(text) == length
    return text


class SchemaCase(unittest.TestCase):
    def taken(self, *texts):
        for text in texts:
            with self.subTest(text=text):
                self.assertEqual(last(schema(text)), [0])

    def refused(self, *texts):
        for text in texts:
            with self.subTest(text=text):
                self.assertEqual(last(schema(text)), WRONG_TEXT)


class TestWholeSchemas(SchemaCase):
    def test_example_has_nine_leaves(self):
        answered = ask(schema(SHAPES), column(8), column(9))
        self.assertEqual(answered[0], [0])
        self.assertEqual(answered[1], [1, 32, 1, 2, 2, 6, 2])
        self.assertEqual(answered[2], NO_SUCH_COLUMN)

    def test_second_example(self):
        self.taken(NESTED)

    def test_every_beginning_of_the_example_is_refused(self):
        self.refused(*(SHAPES[:length] for length in range(len(SHAPES))))

    def test_nothing_stands_behind_the_end(self):
        self.refused("{1a!b}{1a!b}", "{1a!b}}", "{1a!b};", "{1a!b}\0", "{1a!b}\n", "{1a!b} ")

    def test_no_blanks(self):
        self.refused(" {1a!b}", "{ 1a!b}", "{1 a!b}", "{1a !b}", "{1a! b}", "{1a!b }", "{1a!b; 2c!b}")

    def test_the_outermost_is_a_record(self):
        self.refused("<1a!b>", "b", "i8", "1a!b", "1a!{1b!b}")

    def test_empty_text_and_empty_groups(self):
        self.refused("", "{}", "{1a!{}}", "{1a!<>}", "{1a*{}}")

    def test_fields_are_parted_by_semicolons(self):
        self.taken("{1a!b;2c!b}")
        self.refused("{1a!b;}", "{;1a!b}", "{1a!b;;2c!b}", "{1a!b,2c!b}", "{1a!b2c!b}")

    def test_groups_end_with_their_own_sign(self):
        self.taken("{1a!{1b!b}}", "{1a!<1b!b>}")
        self.refused("{1a!{1b!b>}", "{1a!<1b!b}}", "{1a!b>", "{1a!{1b!b}")

    def test_length(self):
        self.taken(schema_of_length(1999), schema_of_length(2000))
        self.refused(schema_of_length(2001), schema_of_length(2999))
        self.refused("x" * 5000, "{" * 5000, "{1a!" * 1250, "1" * 5000)


class TestNumbersAndNames(SchemaCase):
    def test_number_range(self):
        self.taken("{1a!b}", "{9a!b}", "{10a!b}", "{999a!b}")
        self.refused("{0a!b}", "{1000a!b}", "{9999a!b}", "{a!b}", "{-1a!b}", "{+1a!b}")

    def test_number_without_zero_in_front(self):
        self.refused("{01a!b}", "{001a!b}", "{00a!b}")

    def test_numbers_rise_within_a_group(self):
        self.taken("{1a!b;2c!b}", "{1a!b;999c!b}", "{7a!b;8c!b;100d!b}")
        self.refused("{1a!b;1c!b}", "{2a!b;1c!b}", "{999a!b;1c!b}", "{1a!b;3c!b;2d!b}", "{10a!b;9c!b}")
        self.refused("{1a!<2b!b;1c!b>}", "{1a!<2b!b;2c!b>}", "{1a?{2b!b;2c!b}}")

    def test_numbers_of_other_groups_do_not_count(self):
        self.taken("{5a!{1b!b;2c!b};6d!{1b!b}}", "{1a!{1a!{1a!b}}}", "{5a!{9b!b};6d!<3e!b>}")
        self.refused("{5a!{1b!b};5d!b}", "{5a!{9b!b};4d!b}")

    def test_name_length(self):
        self.taken("{1a!b}", "{1abcdefghijkl!b}", "{1a00000000000!b}")
        self.refused("{1!b}", "{1abcdefghijklm!b}", "{1" + "a" * 500 + "!b}")

    def test_name_signs(self):
        self.taken("{1az_09!b}", "{1z!b}", "{1a_!b}", "{1a9!b}", "{1a__!b}")
        self.refused("{1_a!b}", "{1A!b}", "{1aB!b}", "{1a-b!b}", "{1a.b!b}", "{1`!b}", "{1{!b}", "{1a`!b}",
                     "{1a/!b}", "{1a:!b}", "{1a\xe4!b}", "{1a^!b}")

    def test_name_once_in_a_group(self):
        self.taken("{1a!b;2aa!b}", "{1a!{1a!b;2b!b};2b!{1a!b;2b!b}}")
        self.refused("{1a!b;2a!b}", "{1a!b;2c!b;3a!b}", "{1x!<1a!b;2a!b>}", "{1x!{1a!b;2a!b}}",
                     "{1a!{1c!b};2a!b}")


class TestModes(SchemaCase):
    def test_each_mode(self):
        self.taken("{1a!b}", "{1a?b}", "{1a*b}", "{1a%{1k!b}}")
        self.refused("{1ab}", "{1a+b}", "{1a#b}", "{1a!!b}", "{1a?*b}", "{1a b}", "{1a&b}", "{1a$b}")

    def test_modes_at_groups(self):
        self.taken("{1a!{1b!b}}", "{1a?{1b!b}}", "{1a*{1b!b}}", "{1a!<1b!b>}", "{1a?<1b!b>}", "{1a*<1b!b>}")

    def test_in_a_choice_each_field_occurs_once(self):
        self.taken("{1a!<1b!b;2c!{1d?b}>}")
        self.refused("{1a!<1b?b>}", "{1a!<1b*b>}", "{1a!<1b%{1k!b}>}", "{1a!<1b!b;2c?b>}", "{1a!<1b!b;2c*b>}")

    def test_within_a_record_in_a_choice_all_modes(self):
        self.taken("{1a!<1b!{1c?b;2d*b;3e%{1k!b}}>}")

    def test_keyed_only_at_a_record_with_a_key(self):
        self.taken("{1a%{1k!b}}", "{1a%{1k!i8;2v*b}}", "{1a%{1k!t4;2v?{1x!b}}}", "{1a%{1k!i8=3}}")
        self.refused("{1a%b}", "{1a%i8}", "{1a%t8}", "{1a%<1k!b>}", "{1a%{1k?b}}", "{1a%{1k*b}}",
                     "{1a%{1k!{1b!b}}}", "{1a%{1k!<1b!b>}}", "{1a%{1k%{1b!b}}}")

    def test_the_key_is_the_first_field(self):
        self.refused("{1a%{1v?b;2k!b}}", "{1a%{1v!{1x!b};2k!b}}")


class TestKinds(SchemaCase):
    def test_leaf_kinds(self):
        self.taken("{1a!b}", "{1a!i8}", "{1a!t8}")
        self.refused("{1a!}", "{1a!c}", "{1a!B}", "{1a!I8}", "{1a!i}", "{1a!t}", "{1a!8}", "{1a!b1}", "{1a!bb}",
                     "{1a!(1b!b)}", "{1a!a}", "{1a!u8}")

    def test_range_of_n_of_whole_numbers(self):
        self.taken("{1a!i2}", "{1a!i3}", "{1a!i9}", "{1a!i10}", "{1a!i64}")
        self.refused("{1a!i0}", "{1a!i1}", "{1a!i65}", "{1a!i100}", "{1a!i999}", "{1a!i-2}", "{1a!i02}", "{1a!i064}")

    def test_range_of_n_of_texts(self):
        self.taken("{1a!t1}", "{1a!t64}", "{1a!t65}", "{1a!t999}")
        self.refused("{1a!t0}", "{1a!t1000}", "{1a!t9999}", "{1a!t01}", "{1a!t-1}")

    def test_depth(self):
        self.taken(nested_records(1), nested_records(5), nested_records(6))
        self.refused(nested_records(7), nested_records(8), nested_records(300))

    def test_choices_count_for_depth(self):
        self.taken("{1a!<1a!{1a!<1a!{1a!<1a!b>}>}>}")
        self.refused("{1a!<1a!{1a!<1a!{1a!<1a!{1a!b}>}>}>}", "{1a!<1a!{1a!<1a!{1a!<1a!<1a!b>>}>}>}")

    def test_depth_is_not_how_many_groups_there_are(self):
        self.taken("{" + ";".join(f"{n}f{n}!{{1a!b}}" for n in range(1, 21)) + "}")

    def test_number_of_leaves(self):
        self.taken(many_leaves(39), many_leaves(40))
        self.refused(many_leaves(41), many_leaves(60))

    def test_leaves_of_all_groups_count(self):
        forty = "{1g!" + many_leaves(20) + ";2h!<" + many_leaves(20)[1:-1] + ">}"
        self.taken(forty)
        self.refused(forty[:-1] + ";3x!b}")


class TestDefaults(SchemaCase):
    def test_of_each_leaf_kind(self):
        self.taken("{1a!b=0}", "{1a!b=1}", "{1a!i8=-5}", '{1a!t3="abc"}', '{1a!t3="";2b!b}')

    def test_where_it_may_stand(self):
        self.taken("{1a?{1b!b=1}}", "{1a!<1b!{1c!b=1}>}", "{1a*{1b!b=1}}")
        self.refused("{1a?b=1}", "{1a*b=1}", "{1a!<1b!b=1>}", "{1a!{1b!b}={b:1}}", "{1a!{1b!b}=1}",
                     "{1a!<1b!b>=1}", "{1a%{1k!b}=1}", '{1a!{1b!b}=""}', '{1a!<1b!b>=""}',
                     "{1a?i8=1}", '{1a*t3="a"}', "{1a!<1b!b;2c!i8=1>}")

    def test_a_literal_follows(self):
        self.refused("{1a!b=}", "{1a!b==1}", "{1a!b=1=1}", "{1a!b:1}", "{1a=1!b}")

    def test_bits(self):
        self.refused("{1a!b=2}", "{1a!b=01}", "{1a!b=00}", "{1a!b=-1}", "{1a!b=-0}", '{1a!b="1"}', "{1a!b=/}")

    def test_whole_numbers_in_their_range(self):
        self.taken("{1a!i2=-2}", "{1a!i2=1}", "{1a!i2=0}", "{1a!i2=-1}", "{1a!i8=-128}", "{1a!i8=127}")
        self.refused("{1a!i2=-3}", "{1a!i2=2}", "{1a!i8=-129}", "{1a!i8=128}")
        self.taken(f"{{1a!i64={2 ** 63 - 1}}}", f"{{1a!i64={-2 ** 63}}}")
        self.refused(f"{{1a!i64={2 ** 63}}}", f"{{1a!i64={-2 ** 63 - 1}}}", "{1a!i64=" + "9" * 1900 + "}")

    def test_whole_numbers_in_their_form(self):
        self.refused("{1a!i8=-0}", "{1a!i8=00}", "{1a!i8=01}", "{1a!i8=-01}", "{1a!i8=+1}", "{1a!i8=-}",
                     "{1a!i8=--1}", "{1a!i8=1-}", "{1a!i8=1.0}", '{1a!i8="1"}', "{1a!i8=1a}", "{1a!i8=/1}",
                     "{1a!i8=:}")

    def test_texts_in_their_length(self):
        self.taken('{1a!t2="ab"}', '{1a!t2="\\00\\ff"}', '{1a!t1="\\22"}', '{1a!t999="' + "\\0a" * 600 + '"}')
        self.refused('{1a!t2="abc"}', '{1a!t1="\\00\\ff"}', '{1a!t999="' + "a" * 1000 + '"}')

    def test_texts_in_their_form(self):
        self.taken('{1a!t9=" ~!#[]"}', '{1a!t9="\\1f\\7f\\5c\\22\\80"}', '{1a!t9="};{<>,:"}')
        self.refused('{1a!t9="a}', "{1a!t9=a}", "{1a!t9='a'}", '{1a!t9=a"}', '{1a!t9="a"a"}', '{1a!t9="\\"}',
                     '{1a!t9="\\"', '{1a!t9="\\2"}', '{1a!t9="\\5C"}', '{1a!t9="\\61"}', '{1a!t9="\\20"}',
                     '{1a!t9="\\7e"}', '{1a!t9="\x1f"}', '{1a!t9="\x7f"}', '{1a!t9="\xff"}', '{1a!t9="\0"}',
                     '{1a!t9="\\n"}', '{1a!t9="\\g0"}', '{1a!t9="\\0g"}', '{1a!t9="\\0`"}', '{1a!t9="\\:0"}',
                     '{1a!t9="\\/0"}')


class TestWhatASchemaChanges(unittest.TestCase):
    def test_before_the_first_schema_all_other_calls_are_refused(self):
        calls = [put("{}"), put("no row"), rows(), show(0), column(0), column(-1), entries(0, 0, 0),
                 entries(-1, -1, -1), show(FAR)]
        self.assertEqual(ask(*calls), [NO_SCHEMA] * len(calls))

    def test_a_refused_first_schema_is_none(self):
        self.assertEqual(ask(schema("{}"), rows(), column(0)), [WRONG_TEXT, NO_SCHEMA, NO_SCHEMA])

    def test_a_new_schema_takes_the_rows_away(self):
        answered = ask(schema("{1a!b}"), put("{a:1}"), put("{a:0}"), rows(), schema("{1c?i8}"), rows(), show(0),
                       entries(0, 0, 0), entries(0, 0, 1), column(0), put("{a:1}"), put("{c:1}"))
        self.assertEqual(answered, [[0], [0], [1], [2], [0], [0], [-3], [0], [-3], [1, 8, 0, 1, 1, 1], [-1], [0]])

    def test_the_same_schema_again_takes_the_rows_away_too(self):
        self.assertEqual(ask(schema("{1a!b}"), put("{a:1}"), schema("{1a!b}"), rows()), [[0], [0], [0], [0]])

    def test_a_refused_schema_leaves_schema_and_rows(self):
        for wrong in ("", "{1c?i8", "{1c?i65}", "{1c?i8;1d?i8}", "{1c?i8}x", schema_of_length(2001)):
            with self.subTest(wrong=wrong):
                answered = ask(schema("{1a!b}"), put("{a:1}"), schema(wrong), rows(), show(0), column(0), column(1),
                               entries(0, 0, 1), put("{a:0}"))
                self.assertEqual(answered, [[0], [0], WRONG_TEXT, [1], text_answer("{a:1}"), [0, 0, 0, 0, 1, 1],
                                            NO_SUCH_COLUMN, [1, 0, 0, 1, 49], [1]])


if __name__ == "__main__":
    unittest.main()
