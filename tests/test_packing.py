"""Points 2, 3 and 13: parts as octets."""

import copy
import unittest

from columnkin.errors import BadParts, KinError, Unsound
from columnkin.packing import pack, unpack
from columnkin.schemas import Schema
from plain import SIGNS

PAIR = Schema((("id", "required", "int"), ("tags", "repeated", "text")))
LISTS = Schema((("g", "repeated", (("h", "repeated", (("x", "repeated", "int"),)),)),))
TEXT = Schema((("a", "required", "text"),))
# Numbers, and the octets that point 13 has for them, up to and from each length on.
NUMBERS = (
    (0, (0,)), (1, (1,)), (2, (2,)), (126, (126,)), (127, (127,)),
    (128, (128, 1)), (129, (129, 1)), (255, (255, 1)), (256, (128, 2)), (300, (172, 2)), (16383, (255, 127)),
    (16384, (128, 128, 1)), (16385, (129, 128, 1)), (2097151, (255, 255, 127)),
    (2097152, (128, 128, 128, 1)), (268435455, (255, 255, 255, 127)),
    (268435456, (128, 128, 128, 128, 1)), (2147483648, (128, 128, 128, 128, 8)),
    (4294967294, (254, 255, 255, 255, 15)), (4294967295, (255, 255, 255, 255, 15)),
)


def one(rule, kind="int"):
    """A schema with a single leaf."""
    return Schema((("a", rule, kind),))


class PackTest(unittest.TestCase):
    """What is packed is unpacked to the same parts."""

    def assert_packed(self, schema, parts, octets):
        with self.subTest(schema=schema.fields, parts=parts):
            before = copy.deepcopy(parts)
            found = pack(schema, parts)
            self.assertEqual(found, octets)
            self.assertIs(type(found), tuple)
            self.assertTrue(all([type(octet) is int for octet in found]))
            self.assertEqual(repr(unpack(schema, octets)), repr(parts))
            self.assertEqual(repr(parts), repr(before))

    def test_missing_and_empty_columns(self):
        self.assert_packed(PAIR, (None, None), (0, 0))
        self.assert_packed(PAIR, ((), None), (1, 0, 0))
        self.assert_packed(PAIR, (None, ()), (0, 1, 0))
        self.assert_packed(PAIR, ((), ()), (1, 0, 1, 0))

    def test_columns_one_behind_the_other(self):
        ids, tags = ((0, 0, 1), (0, 0, -2)), ((0, 1, "a"), (1, 1, "bc"), (0, 0, None))
        packed_ids, packed_tags = (5, 2, 8, 8, 2, 3), (11, 3, 4, 5, 4, 9, 4, 1, 0, 2, 1, 2)
        self.assert_packed(PAIR, (ids, None), (*packed_ids, 0))
        self.assert_packed(PAIR, (None, tags), (0, *packed_tags))
        self.assert_packed(PAIR, (ids, tags), (*packed_ids, *packed_tags))

    def test_levels_are_written_run_by_run(self):
        column = ((0, 3, 1), (3, 3, 2), (3, 3, 3), (2, 2, None), (1, 1, None), (0, 0, None), (0, 0, None), (0, 3, 4))
        self.assert_packed(LISTS, (column,), (
            15, 8, 4, 11, 6, 5, 12, 15, 6, 5, 8, 7, 2, 4, 6, 8,
        ))

    def test_long_runs(self):
        for length, run in ((31, (124,)), (32, (128, 1)), (33, (132, 1)), (100, (144, 3)), (1000, (160, 31))):
            count = (length,) if length < 128 else (232, 7)
            block = (*count, *run, *run, *[1] * length)
            size = (len(block),) if len(block) < 128 else (len(block) % 128 + 128, len(block) // 128)
            self.assert_packed(one("required", "flag"), (((0, 0, True),) * length,), (*size, *block))

    def test_runs_of_other_levels(self):
        column = ((0, 1, False), *[(1, 1, True)] * 999)
        block = (232, 7, 4, 157, 31, 161, 31, 0, *[1] * 999)
        self.assert_packed(one("repeated", "flag"), (column,), (len(block) % 128 + 128, len(block) // 128, *block))

    def test_only_values_that_are_there_are_written(self):
        column = ((0, 1, 5), (0, 0, None), (0, 1, 6), (0, 0, None))
        self.assert_packed(one("optional"), (column,), (8, 4, 16, 5, 4, 5, 4, 10, 12))

    def test_integers(self):
        for number, octets in NUMBERS:
            value = number // 2 if number % 2 == 0 else -(number + 1) // 2
            block = (1, 4, 4, *octets)
            self.assert_packed(one("required"), (((0, 0, value),),), (len(block), *block))

    def test_integers_at_both_bounds(self):
        for value, octets in (
            (0, (0,)), (-1, (1,)), (1, (2,)), (-2, (3,)), (63, (126,)), (-64, (127,)), (64, (128, 1)), (-65, (129, 1)),
            (2147483647, (254, 255, 255, 255, 15)), (-2147483648, (255, 255, 255, 255, 15)),
        ):
            block = (1, 4, 4, *octets)
            self.assert_packed(one("required"), (((0, 0, value),),), (len(block), *block))

    def test_flags(self):
        self.assert_packed(one("required", "flag"), (((0, 0, True), (0, 0, False)),), (5, 2, 8, 8, 1, 0))

    def test_all_signs(self):
        self.assertEqual(len(SIGNS), 75)
        for number, sign in enumerate(SIGNS):
            self.assert_packed(TEXT, (((0, 0, sign),),), (5, 1, 4, 4, 1, number))
        self.assert_packed(TEXT, (((0, 0, SIGNS),),), (79, 1, 4, 4, 75, *range(75)))

    def test_lengths_of_texts(self):
        for length in (0, 1, 2, 99, 100):
            self.assert_packed(TEXT, (((0, 0, "b" * length),),), (4 + length, 1, 4, 4, length, *[1] * length))

    def test_lengths_of_blocks(self):
        """Lengths of one, two and three octets; a block of four octets needs more than a column can hold."""
        for count, size, head in (
            (1, (104,), (1, 4, 4)), (2, (205, 1), (2, 8, 8)), (162, (240, 127), (162, 1, 136, 5, 136, 5)),
            (163, (213, 128, 1), (163, 1, 140, 5, 140, 5)), (1000, (142, 149, 6), (232, 7, 160, 31, 160, 31)),
        ):
            text = (100, *[25] * 100)
            self.assert_packed(TEXT, (((0, 0, "z" * 100),) * count,), (*size, *head, *text * count))

    def test_columns_need_not_fit(self):
        self.assert_packed(PAIR, (((0, 0, 1),), ()), (4, 1, 4, 4, 2, 1, 0))
        self.assert_packed(PAIR, ((), ((0, 1, "a"), (1, 1, ""))), (1, 0, 7, 2, 4, 5, 9, 1, 0, 0))
        self.assert_packed(PAIR, (((0, 0, 1),) * 2, ((0, 0, None),) * 3), (5, 2, 8, 8, 2, 2, 3, 3, 12, 12))

    def test_unsound_columns(self):
        for parts in (
            (((0, 0, None),), None), (((0, 0, "a"),), None), (((0, 0, True),), None), (((0, 1, 5),), None),
            (((1, 0, 5),), None), (((0, 0, 1), (0, 0, 2), (3, 3, None)), None), (None, ((1, 1, "a"),)),
            (None, ((0, 0, "a"),)), (None, ((0, 0, None), (1, 1, "a"))), (None, ((0, 1, None),)), (None, ((0, 1, 5),)),
            ((), ((0, 2, None),)), (((0, 0, 1),), ((0, 1, "a"), (2, 1, "b"))), (((0, 0, 1),) * 999 + ((0, 0, None),), ()),
        ):
            with self.subTest(parts=parts), self.assertRaises(Unsound):
                pack(PAIR, parts)

    def test_any_column_may_be_unsound(self):
        schema = Schema(tuple([("f" + str(number), "required", "int") for number in range(12)]))
        good, bad = ((0, 0, 1),), ((0, 0, None),)
        for place in range(12):
            with self.assertRaises(Unsound):
                pack(schema, (*[good] * place, bad, *[good] * (11 - place)))
            with self.assertRaises(Unsound):
                pack(schema, (*[None] * place, bad, *[None] * (11 - place)))

    def test_bad_parts_come_first(self):
        unsound = ((0, 0, None),)
        for parts in (
            None, 0, "ab", [], (), (None,), (None, None, None), [None, None], (unsound,), (unsound, None, None),
            (unsound, ((0, 4, None),)), (unsound, "abc"), (((0, 0),), None), (((0, 0, 1),) * 1001, None),
            (((0, 0, 2147483648),), None), (((0, 0, -2147483649),), None), (None, ((0, 1, "a" * 101),)),
            (None, ((0, 1, "#"),)), (((False, 0, 1),), None), ([], None), (None, {}), (5, unsound),
        ):
            with self.subTest(parts=parts), self.assertRaises(BadParts):
                pack(PAIR, parts)

    def test_refusals_are_kin_errors(self):
        for parts in (None, (((0, 0, "a"),), None)):
            with self.assertRaises(KinError):
                pack(PAIR, parts)


if __name__ == "__main__":
    unittest.main()
