"""Points 2, 3, 6 and 7: what values are, what parts of a schema are, and what is called with parts that are none."""

import copy
import unittest

from columnkin.columns import check_parts, is_value, validate
from columnkin.errors import BadParts, Inconsistent, Unsound
from columnkin.packing import pack
from columnkin.papers import judge, paper_for
from columnkin.records import assemble
from columnkin.repair import complete, salvage
from columnkin.schemas import Schema

SIGNS = "abcdefghijklmnopqrstuvwxyzABCDEFGHIJKLMNOPQRSTUVWXYZ0123456789 .,;:!?-_@/()"

INTEGERS = (0, 1, -1, 7, 2147483646, 2147483647, -2147483647, -2147483648)
NO_INTEGERS = (2147483648, -2147483649, 10 ** 30, -(10 ** 30))
TEXTS = ("", " ", "a", "Zz09", "to be, or not: (a@b/c); ok!? x_y-z.", "1", "True", "a" * 100, " " * 100)
NO_TEXTS = (
    "a" * 101, "a" * 100000, "\n", "\t", "\r", "\x00", "\x7f", "a\n", "\na", "a'b", '"', "#", "$", "&", "+", "*", "<",
    "=", ">", "[", "]", "\\", "^", "`", "{", "|", "}", "~", "%", "a" * 99 + "#", "a" * 100 + "#", "\u00e4", "\u00df",
    "\u00b2", "\u0661", "\u0430", "\u00a0", "\u2003", "\U0001f600", "\ud800",
)
NO_VALUES = (
    None, 0.0, 1.0, 2.5, 1j, b"", b"a", (), ("a",), (1,), [], ["a"], [1], {}, {"a": 1}, set(), {1}, frozenset(), object(),
    int, len,
)

PAIR = Schema((("a", "required", "int"), ("b", "repeated", "text")))


class ValuesTest(unittest.TestCase):
    def assert_values(self, values, kinds):
        for value in values:
            for kind in ("int", "text", "flag"):
                with self.subTest(value=value, kind=kind):
                    self.assertIs(is_value(value, kind), kind in kinds)

    def test_integers(self):
        self.assert_values(INTEGERS, ("int",))
        self.assert_values(NO_INTEGERS, ())

    def test_texts(self):
        self.assert_values(TEXTS, ("text",))
        self.assert_values(NO_TEXTS, ())

    def test_every_sign(self):
        self.assertEqual(len(SIGNS), 75)
        for number in range(0x500):
            with self.subTest(number=number):
                self.assertIs(is_value(chr(number), "text"), chr(number) in SIGNS)
        self.assertIs(is_value(SIGNS, "text"), True)

    def test_foreign_sign_at_any_place(self):
        for place in range(100):
            self.assertIs(is_value("a" * place + "#" + "a" * (99 - place), "text"), False)

    def test_flags(self):
        self.assert_values((True, False), ("flag",))

    def test_anything_else(self):
        self.assert_values(NO_VALUES, ())

    def test_zero_and_one_are_no_flags(self):
        for value in (0, 1, -1, "", "True", None):
            self.assertIs(is_value(value, "flag"), False)


# All that is called with parts, with the errors that it may raise for parts that are some.
CALLS = (
    (check_parts, ()), (validate, ()), (assemble, Inconsistent), (complete, Inconsistent), (salvage, ()), (pack, Unsound),
    (lambda schema, parts: judge(schema, parts, ("records", [])), ()),
    (lambda schema, parts: judge(schema, parts, ("entry", 0, 0)), ()),
    (lambda schema, parts: judge(schema, parts, None), ()),
    (paper_for, ()),
)


class PartsTest(unittest.TestCase):
    """Parts that are refused are refused by the whole program, and others by nothing."""

    def assert_taken(self, schema, parts):
        self.assertIs(check_parts(schema, parts), None)
        for call, errors in CALLS:
            try:
                call(schema, parts)
            except errors:
                pass

    def assert_refused(self, schema, parts):
        for call, errors in CALLS:
            with self.assertRaises(BadParts):
                call(schema, parts)

    def assert_column(self, column, taken):
        """The column is taken, or is not, in every place, beside missing columns and others."""
        check = self.assert_taken if taken else self.assert_refused
        for parts in (
            (column, None), (None, column), (column, ()), ((), column), (column, column), (column, ((0, 0, None),)),
        ):
            check(PAIR, parts)

    def assert_entry(self, entry, taken):
        with self.subTest(entry=entry):
            self.assert_column((entry,), taken)
            self.assert_column(((0, 0, 1), entry, (1, 1, "a")), taken)
            self.assert_column(((0, 0, 1), (0, 0, 1), entry), taken)

    def test_columns(self):
        self.assert_taken(PAIR, (((0, 0, 1), (0, 0, 2)), ((0, 1, "a"), (1, 1, "b"), (0, 0, None))))
        self.assert_column((), True)
        self.assert_taken(PAIR, (None, None))

    def test_each_leaf_has_a_place(self):
        for count in (1, 2, 3, 12):
            fields = tuple([("f" + str(number), "required", "int") for number in range(count)])
            schema = Schema(fields)
            self.assert_taken(schema, (None,) * count)
            self.assert_taken(schema, ((),) * count)
            for other in (0, count - 1, count + 1, 2 * count, 100):
                if other != count:
                    self.assert_refused(schema, (None,) * other)
                    self.assert_refused(schema, ((),) * other)

    def test_leaves_within_groups_are_counted(self):
        schema = Schema((("g", "repeated", (("a", "required", "int"), ("b", "required", "int"))),))
        self.assert_taken(schema, (None, ()))
        self.assert_refused(schema, (None,))

    def test_no_parts(self):
        for parts in (
            None, 0, 1, 2, True, "", "ab", b"ab", [], [None, None], [(), ()], {}, {0: None, 1: None}, set(), {1, 2},
            object(), PAIR, range(2), 2.0,
        ):
            with self.subTest(parts=parts):
                self.assert_refused(PAIR, parts)

    def test_no_column(self):
        for column in (
            0, 1, True, False, "", "a", b"", b"abc", [], [(0, 0, 1)], {}, {(0, 0, 1): 1}, set(), frozenset(), object(),
            range(0), 1.5, len, (0, 0, 1), (None,), ((),), ("abc",), (0,), PAIR,
        ):
            with self.subTest(column=column):
                self.assert_column(column, False)

    def test_lengths_of_columns(self):
        entry = (0, 0, 1)
        for length in (0, 1, 999, 1000):
            self.assert_column((entry,) * length, True)
        for length in (1001, 1002, 5000):
            self.assert_column((entry,) * length, False)

    def test_no_entry(self):
        for entry in (
            None, 0, True, "", "abc", "001", b"abc", [], [0, 0, 1], {}, {0: 0, 1: 0, 2: 1}, {1, 2, 3}, object(), range(3),
            (), (0,), (0, 0), (0, 0, 1, 1), (0, 0, 0, 0), ((0, 0, 1),), ((0, 0), 1, 1), ("a", 0, 0),
        ):
            self.assert_entry(entry, False)

    def test_levels(self):
        for repetition in range(-2, 7):
            for definition in range(-2, 7):
                taken = 0 <= repetition <= 3 and 0 <= definition <= 3
                self.assert_entry((repetition, definition, None), taken)
                self.assert_entry((repetition, definition, 5), taken)
        for level in (10, 255, 256, 1000, 10 ** 30, -(10 ** 30)):
            self.assert_entry((level, 0, None), False)
            self.assert_entry((0, level, None), False)

    def test_no_levels(self):
        for level in (
            None, True, False, 0.0, 1.0, 2.5, 0j, "", "0", "1", b"", b"\x00", (), (0,), [], [0], {}, {0}, object(), int,
        ):
            self.assert_entry((level, 0, None), False)
            self.assert_entry((0, level, None), False)
            self.assert_entry((level, level, 1), False)

    def test_values_of_any_kind(self):
        for value in (None, True, False, *INTEGERS, *TEXTS):
            self.assert_entry((0, 0, value), True)
            self.assert_entry((3, 3, value), True)

    def test_values_of_no_kind(self):
        for value in (*NO_INTEGERS, *NO_TEXTS):
            self.assert_entry((0, 0, value), False)
        for value in NO_VALUES:
            if value is not None:
                self.assert_entry((0, 0, value), False)
                self.assert_entry((1, 3, value), False)

    def test_levels_and_values_need_not_suit_the_leaf(self):
        self.assert_taken(PAIR, (((3, 3, "a"), (2, 0, True)), ((1, 0, 5), (3, 1, None))))

    def test_one_bad_column_is_enough(self):
        fields = tuple([("f" + str(number), "required", "int") for number in range(12)])
        schema = Schema(fields)
        good = ((0, 0, 1),) * 3
        for place in range(12):
            for bad in ("abc", [], ((0, 0),), ((0, 4, 1),), ((0, 0, 1.0),), ((0, 0, 1),) * 1001):
                self.assert_refused(schema, (good,) * place + (bad,) + (good,) * (11 - place))
                self.assert_refused(schema, (None,) * place + (bad,) + (None,) * (11 - place))

    def test_bad_parts_come_ahead_of_problems(self):
        wrong = ((0, 0, "a"),)
        with self.assertRaises(BadParts):
            validate(PAIR, (wrong, ((0, 4, "a"),)))
        with self.assertRaises(BadParts):
            validate(PAIR, (wrong, ((0, 1, "a"), (0, 1, True), (False, 0, None))))

    def test_arguments_stay_as_they_are(self):
        for parts in ([[(0, 0, 1)], None], ([[0, 0, 1]], None), (([0, 0, [1]],), None), {0: [1], 1: None}):
            before = copy.deepcopy(parts)
            self.assert_refused(PAIR, parts)
            self.assertEqual(parts, before)


if __name__ == "__main__":
    unittest.main()
