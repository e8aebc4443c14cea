import unittest

from helper import (
    FAR, NO_SCHEMA, WRONG_TEXT, add, ask, assemble, check, column, drop, entries, last, load, put, rows, schema, show,
)

# Each call once as it could be right, and as other refusals would meet it if they were looked at first.
CALLS = [
    put("{a:1}"), put(""), put("x" * 5000),
    rows(),
    show(0), show(-1), show(FAR),
    column(0), column(-1), column(FAR),
    entries(0, 0, 0), entries(-1, 0, 0), entries(0, -1, 5), entries(FAR, FAR, FAR),
    check([0], [0]), check([], []), check([1, 0], [-1]), check([0], [1001] + [0, 0] * 1001), check([0], [FAR]),
    assemble([0], [0]), assemble([], []), assemble([1, 0], [-1]), assemble([0], [1001] + [0, 0] * 1001),
    load([0]), load([]), load([-1]), load([1001] + [0, 0] * 1001), load([1, 5, 5]),
    add([0]), add([]), add([-1]), add([1001] + [0, 0] * 1001), add([1, 5, 5]),
    drop(0), drop(-1), drop(FAR),
]


class TestNoSchema(unittest.TestCase):
    def test_every_other_call_is_refused(self):
        for call in CALLS:
            with self.subTest(call=call[:8]):
                self.assertEqual(ask(call), [NO_SCHEMA])

    def test_behind_a_refused_schema(self):
        for call in CALLS:
            with self.subTest(call=call[:8]):
                self.assertEqual(ask(schema("{1a!c}"), call, schema(""), call),
                                 [WRONG_TEXT, NO_SCHEMA, WRONG_TEXT, NO_SCHEMA])

    def test_refused_calls_leave_no_schema_and_no_rows(self):
        answered = ask(load([1, 0, 0, 1, 49]), add([1, 0, 0, 1, 49]), drop(0), rows(), schema("{1a!b}"), rows())
        self.assertEqual(answered, [NO_SCHEMA, NO_SCHEMA, NO_SCHEMA, NO_SCHEMA, [0], [0]])

    def test_a_refused_schema_behind_a_schema_leaves_that(self):
        for call in (check([0], [0]), assemble([0], [0]), load([0]), add([0]), rows(), entries(0, 0, 0), column(0)):
            with self.subTest(call=call):
                self.assertNotEqual(last(schema("{1a!b}"), schema("{"), call), NO_SCHEMA)


if __name__ == "__main__":
    unittest.main()
