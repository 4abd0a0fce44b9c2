"""Points 14 and 15: what octets hold, and what can be recovered from them."""

import itertools
import unittest

from columnkin.columns import validate
from columnkin.errors import BadOctets, KinError
from columnkin.packing import pack, recover, unpack
from columnkin.records import assemble, shred
from columnkin.repair import complete, salvage
from columnkin.schemas import Schema
from plain import draws, drawn_records, drawn_schema

PAIR = Schema((("id", "required", "int"), ("tags", "repeated", "text")))
PAIR_OCTETS = (5, 2, 8, 8, 2, 3, 7, 2, 8, 4, 5, 1, 0, 0)
LISTS = Schema((("g", "repeated", (("h", "repeated", (("x", "repeated", "int"),)),)),))
INT, TEXT, FLAG = [Schema((("a", "required", kind),)) for kind in ("int", "text", "flag")]
FLAGS = Schema((("a", "repeated", "flag"),))


def number(value, octets=0):
    """The octets of a number; so many at least, more than it needs if it needs fewer."""
    found = []
    while value or not found or len(found) < octets:
        found.append(value % 128 + 128)
        value //= 128
    return (*found[:-1], found[-1] - 128)


def framed(block):
    """A block behind its length."""
    return (*number(len(block)), *block)


def blocks_of(octets, count):
    """The blocks that octets consist of, so many, or None."""
    if count == 0:
        return () if octets == () else None
    for size in range(1, 6):
        length = sum([octet % 128 * 128 ** place for place, octet in enumerate(octets[:size])])
        if octets[:size] == number(length):
            if length > min(len(octets) - size, 4294967295):
                return None
            others = blocks_of(octets[size + length:], count - 1)
            return None if others is None else (octets[size:size + length], *others)
    return None


class FramesTest(unittest.TestCase):
    """What recover is told, unpack is told as well."""

    def assert_bad(self, schema, octets):
        for function in (unpack, recover):
            with self.assertRaises(BadOctets):
                function(schema, octets)

    def test_no_octets(self):
        for octets in (
            None, 0, 5, True, "", "ab", "\x00\x00", b"", b"\x00\x00", bytearray(2), [], [0, 0], {}, {0: 0, 1: 0}, {0},
            range(2), object(), 1.5, PAIR, list(PAIR_OCTETS), bytes(PAIR_OCTETS),
        ):
            with self.subTest(octets=octets):
                self.assert_bad(PAIR, octets)

    def test_each_octet_is_an_integer_from_0_to_255(self):
        for place in range(len(PAIR_OCTETS)):
            for other in (
                -1, 256, 257, 1000, -128, 10 ** 30, None, True, False, "0", "a", b"", b"\x02", 2.0, (), (2,), [], [2], {},
            ):
                with self.subTest(place=place, other=other):
                    self.assert_bad(PAIR, (*PAIR_OCTETS[:place], other, *PAIR_OCTETS[place + 1:]))
                    self.assert_bad(PAIR, (*PAIR_OCTETS, other))

    def test_each_octet_may_be_any_of_these(self):
        self.assertEqual(unpack(INT, framed(tuple(range(256)))), (None,))
        for octet in range(256):
            self.assertEqual(len(unpack(PAIR, (1, octet, 1, octet))), 2)

    def test_cut_off_or_followed(self):
        self.assertEqual(unpack(PAIR, PAIR_OCTETS), (((0, 0, 1), (0, 0, -2)), None))
        for length in range(len(PAIR_OCTETS)):
            self.assert_bad(PAIR, PAIR_OCTETS[:length])
        for more in ((0,), (1,), (0, 0), (128,), PAIR_OCTETS):
            self.assert_bad(PAIR, (*PAIR_OCTETS, *more))
        self.assert_bad(PAIR, ())
        self.assert_bad(INT, ())

    def test_there_is_a_block_for_each_leaf(self):
        for count in (1, 2, 3, 12):
            schema = Schema(tuple([("f" + str(place), "required", "int") for place in range(count)]))
            self.assertEqual(unpack(schema, (0,) * count), (None,) * count)
            self.assertEqual(unpack(schema, (1, 0) * count), ((),) * count)
            self.assertEqual(unpack(schema, (5, 1, 4, 4, 128, 1) * count), (((0, 0, 64),),) * count)
            for other in (count - 1, count + 1):
                self.assert_bad(schema, (0,) * other)
                self.assert_bad(schema, (1, 0) * other)

    def test_lengths_with_as_few_octets_as_possible(self):
        block = (2, 8, 8, 2, 3)
        self.assertEqual(unpack(INT, (*number(5), *block)), (((0, 0, 1), (0, 0, -2)),))
        for octets in (2, 3, 4, 5, 6, 7, 10):
            self.assert_bad(INT, (*number(5, octets), *block))
            self.assert_bad(INT, number(0, octets))
            self.assert_bad(PAIR, (*number(0, octets), 0))
            self.assert_bad(PAIR, (0, *number(0, octets)))
            self.assert_bad(INT, (*number(200, octets + 1), *[0] * 200))
        self.assertEqual(unpack(INT, (*number(200), *[0] * 200)), (None,))

    def test_lengths_beyond_the_octets(self):
        for length in (6, 127, 128, 16384, 2 ** 31, 2 ** 32 - 1, 2 ** 32, 2 ** 35 - 1, 2 ** 35, 2 ** 42, 10 ** 30):
            self.assert_bad(INT, (*number(length), 2, 8, 8, 2, 3))
            self.assert_bad(PAIR, (0, *number(length), 2, 8, 8, 2, 3))
        # Without its bits beyond the fifth octet this would be the length 5.
        self.assert_bad(INT, (133, 128, 128, 128, 16, 2, 8, 8, 2, 3))
        self.assert_bad(INT, (133, 128, 128, 128, 128, 1, 2, 8, 8, 2, 3))

    def test_lengths_without_a_last_octet(self):
        for octet in (128, 129, 255):
            for count in range(1, 12):
                self.assert_bad(INT, (octet,) * count)
                self.assert_bad(PAIR, (0, *[octet] * count))

    def test_long_blocks(self):
        for length in (127, 128, 16383, 16384, 200000):
            self.assertEqual(unpack(PAIR, (*framed((0,) * length), 1, 0)), (None, ()))
            self.assert_bad(PAIR, (*number(length), *[0] * (length - 1)))
            self.assert_bad(PAIR, (*framed((0,) * length),))

    def test_all_short_octets(self):
        for count in range(7):
            for octets in itertools.product((0, 1, 2, 128, 129), repeat=count):
                blocks = blocks_of(octets, 2)
                if blocks is None:
                    with self.assertRaises(BadOctets):
                        unpack(PAIR, octets)
                else:
                    expected = tuple([() if block == (0,) else None for block in blocks])
                    self.assertEqual(unpack(PAIR, octets), expected)

    def test_octets_in_blocks_do_not_matter(self):
        for octets in itertools.product((0, 1, 127, 128, 255), repeat=4):
            self.assertEqual(len(unpack(PAIR, (4, *octets, 4, *octets))), 2)

    def test_refusals_are_kin_errors(self):
        for octets in (None, (), (0,), (256, 0)):
            with self.assertRaises(KinError):
                unpack(PAIR, octets)


class BlocksTest(unittest.TestCase):
    def assert_holds(self, schema, block, column):
        """A block holds a column, or None: alone, ahead of another column, and behind it."""
        with self.subTest(schema=schema.fields, block=block):
            self.assertEqual(repr(unpack(schema, framed(block))), repr((column,)))
            beside = ("z", "required", "int")
            parts = unpack(Schema((*schema.fields, beside)), (*framed(block), 5, 2, 8, 8, 2, 3))
            self.assertEqual(repr(parts), repr((column, ((0, 0, 1), (0, 0, -2)))))
            parts = unpack(Schema((beside, *schema.fields)), (5, 2, 8, 8, 2, 3, *framed(block)))
            self.assertEqual(repr(parts), repr((((0, 0, 1), (0, 0, -2)), column)))

    def test_empty_blocks(self):
        for schema in (INT, TEXT, FLAG, FLAGS, LISTS):
            self.assert_holds(schema, (), None)
            self.assert_holds(schema, (0,), ())

    def test_one_entry(self):
        self.assert_holds(INT, (1, 4, 4, 14), ((0, 0, 7),))
        self.assert_holds(TEXT, (1, 4, 4, 2, 33, 8), ((0, 0, "Hi"),))
        self.assert_holds(FLAG, (1, 4, 4, 1), ((0, 0, True),))
        self.assert_holds(FLAGS, (1, 4, 4), ((0, 0, None),))

    def test_octets_left_over_or_missing(self):
        for schema, block in (
            (INT, (2, 8, 8, 128, 1, 3)), (TEXT, (2, 8, 8, 1, 5, 2, 6, 7)), (FLAG, (2, 8, 8, 1, 0)), (FLAGS, (2, 8, 4, 5, 0)),
            (LISTS, (3, 4, 7, 6, 11, 6, 2, 4)),
        ):
            self.assertIsNotNone(unpack(schema, framed(block))[0])
            for length in range(len(block)):
                self.assert_holds(schema, block[:length], None)
            for more in ((0,), (1,), (4,), (128,), (0, 0), block):
                self.assert_holds(schema, (*block, *more), None)

    def test_numbers_with_more_octets_than_they_need(self):
        for octets in (2, 3, 4, 5, 6, 7):
            for place, value in enumerate((1, 4, 4, 14)):
                block = [(1,), (4,), (4,), (14,)]
                block[place] = number(value, octets)
                self.assert_holds(INT, tuple(itertools.chain(*block)), None)
            self.assert_holds(INT, number(0, octets), None)
            self.assert_holds(INT, (1, 4, 4, *number(0, octets)), None)
            self.assert_holds(FLAG, (1, 4, 4, *number(1, octets)), None)
            self.assert_holds(FLAG, (1, 4, 4, *number(0, octets)), None)
            self.assert_holds(TEXT, (1, 4, 4, *number(0, octets)), None)
            self.assert_holds(TEXT, (1, 4, 4, *number(1, octets), 5), None)
            self.assert_holds(TEXT, (1, 4, 4, 1, *number(5, octets)), None)

    def test_runs_that_are_not_as_long_as_possible(self):
        self.assert_holds(INT, (2, 8, 8, 2, 4), ((0, 0, 1), (0, 0, 2)))
        self.assert_holds(INT, (2, 4, 4, 8, 2, 4), None)
        self.assert_holds(INT, (2, 8, 4, 4, 2, 4), None)
        self.assert_holds(INT, (2, 4, 4, 4, 4, 2, 4), None)
        self.assert_holds(FLAGS, (3, 4, 9, 13, 0, 1, 0), ((0, 1, False), (1, 1, True), (1, 1, False)))
        self.assert_holds(FLAGS, (3, 4, 5, 5, 13, 0, 1, 0), None)
        self.assert_holds(FLAGS, (3, 4, 9, 9, 5, 0, 1, 0), None)

    def test_runs_of_length_0(self):
        for empty in (0, 1, 2, 3):
            self.assert_holds(INT, (0, empty), None)
            self.assert_holds(INT, (0, empty, empty), None)
            self.assert_holds(INT, (1, empty, 4, 4, 2), None)
            self.assert_holds(INT, (1, 4, empty, 4, 2), None)
            self.assert_holds(INT, (1, 4, 4, empty, 2), None)
            self.assert_holds(INT, (1, *[empty] * 100, 4, 4, 2), None)
            self.assert_holds(FLAGS, (2, 4, empty, 5, 9, 0, 1), None)

    def test_runs_beyond_the_number_of_entries(self):
        for run in (8, 12, 160, 4294967292):
            self.assert_holds(FLAGS, (1, *number(run), 4), None)
            self.assert_holds(FLAGS, (1, 4, *number(run)), None)
        self.assert_holds(FLAGS, (2, 4, 8, 8), None)
        self.assert_holds(FLAGS, (0, 4, 4), None)

    def test_numbers_of_entries(self):
        for count in (0, 1, 2, 31, 32, 127, 128, 999, 1000, 1001, 1002, 5000, 2 ** 30 - 1, 2 ** 32 - 1, 2 ** 32):
            run = number(4 * count) if count else ()
            taken = count <= 1000
            column = ((0, 0, None),) * count if taken else None
            self.assert_holds(FLAGS, (*number(count), *run, *run), column)
            if count <= 5000:
                column = ((0, 0, True),) * count if taken else None
                self.assert_holds(FLAG, (*number(count), *run, *run, *[1] * count), column)

    def test_integers(self):
        for value, octets in (
            (0, (0,)), (-1, (1,)), (1, (2,)), (63, (126,)), (-64, (127,)), (64, (128, 1)), (-65, (129, 1)),
            (8191, (254, 127)), (-8192, (255, 127)), (8192, (128, 128, 1)), (2147483647, (254, 255, 255, 255, 15)),
            (-2147483648, (255, 255, 255, 255, 15)),
        ):
            self.assert_holds(INT, (1, 4, 4, *octets), ((0, 0, value),))

    def test_integers_beyond_the_bounds(self):
        for value in (2 ** 32, 2 ** 32 + 1, 2 ** 33, 2 ** 35 - 1, 2 ** 35, 2 ** 35 + 1, 2 ** 70):
            self.assert_holds(INT, (1, 4, 4, *number(value)), None)
        for octet in range(16, 128):
            self.assert_holds(INT, (1, 4, 4, 128, 128, 128, 128, octet), None)

    def test_signs(self):
        for sign in range(128):
            if sign < 75:
                self.assertEqual(pack(TEXT, unpack(TEXT, (5, 1, 4, 4, 1, sign))), (5, 1, 4, 4, 1, sign))
            else:
                self.assert_holds(TEXT, (1, 4, 4, 1, sign), None)
                self.assert_holds(TEXT, (1, 4, 4, 3, 0, sign, 0), None)
        for sign in (128, 256, 2 ** 14, 2 ** 32 - 1, 2 ** 32):
            self.assert_holds(TEXT, (1, 4, 4, 1, *number(sign)), None)
        self.assert_holds(TEXT, (1, 4, 4, 8, 0, 25, 26, 51, 52, 61, 62, 74), ((0, 0, "azAZ09 )"),))

    def test_lengths_of_texts(self):
        for length in (0, 1, 99, 100, 101, 102, 127, 128, 1000):
            column = ((0, 0, "b" * length),) if length <= 100 else None
            self.assert_holds(TEXT, (1, 4, 4, *number(length), *[1] * length), column)
        self.assert_holds(TEXT, (1, 4, 4, *number(2 ** 32 - 1)), None)

    def test_flags(self):
        self.assert_holds(FLAG, (2, 8, 8, 0, 1), ((0, 0, False), (0, 0, True)))
        for other in (*range(2, 128), 128, 129, 255):
            self.assert_holds(FLAG, (1, 4, 4, other), None)
        self.assert_holds(FLAG, (1, 4, 4, 128, 1), None)

    def test_entries_that_are_not_admissible(self):
        self.assert_holds(FLAGS, (2, 4, 5, 9, 1, 1), ((0, 1, True), (1, 1, True)))
        for block in (
            (1, 5, 5, 1), (1, 6, 5, 1), (1, 4, 6), (1, 4, 7), (1, 4, 6, 1), (2, 4, 5, 8), (2, 4, 5, 4, 5, 1),
            (2, 4, 5, 5, 4, 1), (2, 4, 6, 9, 1, 1), (2, 9, 9, 1, 1),
        ):
            self.assert_holds(FLAGS, block, None)
        self.assert_holds(INT, (1, 4, 5), None)
        self.assert_holds(INT, (1, 4, 5, 2), None)
        self.assert_holds(INT, (2, 4, 5, 8, 2, 2), None)
        self.assert_holds(LISTS, (2, 4, 7, 15, 2, 2), None)
        self.assert_holds(LISTS, (2, 4, 7, 14, 2, 2), None)
        self.assert_holds(LISTS, (2, 4, 6, 10), ((0, 2, None), (2, 2, None)))
        self.assert_holds(LISTS, (2, 4, 7, 10), None)

    def test_all_short_blocks(self):
        """Just the blocks of the sound columns hold a column."""
        values = {"int": (0, -1, 1, -2, 64), "text": ("", "a", "b", ")", "aa"), "flag": (False, True)}
        octets = {"int": (0, 1, 2, 4, 5, 8, 128), "text": (0, 1, 2, 4, 5, 8, 74, 75), "flag": (0, 1, 2, 4, 5, 8, 9, 128)}
        for kind, rule in itertools.product(values, ("required", "optional", "repeated")):
            schema = Schema((("a", rule, kind),))
            entries = [(level, 0, None) for level in (0, 1)] + [(level, 1, value) for level in (0, 1) for value in values[kind]]
            entries += [(0, 0, value) for value in values[kind]]
            blocks = {}
            for count in range(3):
                for column in itertools.product(entries, repeat=count):
                    if validate(schema, (column,)) is None:
                        blocks[pack(schema, (column,))] = column
            for count in range(6):
                for block in itertools.product(octets[kind], repeat=count):
                    if block and block[0] <= 2:
                        found = unpack(schema, (count, *block))[0]
                        if found != blocks.get((count, *block)):
                            self.assert_known(schema, found, (count, *block))

    def assert_known(self, schema, found, octets):
        """A column that is not among those that were tried has another value, and its octets are its block."""
        self.assertIsNotNone(found)
        self.assertIs(validate(schema, (found,)), None)
        self.assertEqual(pack(schema, (found,)), octets)


class RecoverTest(unittest.TestCase):
    BOOK = Schema((
        ("id", "required", "int"),
        ("authors", "repeated", (("name", "required", "text"), ("mails", "repeated", "text"))),
        ("print", "optional", (("city", "optional", "text"),)),
    ))
    BOOKS = [
        {"id": 1, "authors": [{"name": "A", "mails": ["a", "b"]}, {"name": "B", "mails": []}], "print": {"city": "X"}},
        {"id": 2, "authors": [], "print": None},
        {"id": 3, "authors": [{"name": "C", "mails": ["c"]}], "print": {"city": None}},
    ]

    def blocks(self):
        """The octets of the books, a framed block for each leaf."""
        columns = shred(self.BOOK, self.BOOKS)
        return [
            framed(blocks_of(pack(self.BOOK, columns), 4)[leaf]) for leaf in range(4)
        ]

    def assert_recovered(self, blocks, leaves, records):
        found = recover(self.BOOK, tuple(itertools.chain(*blocks)))
        self.assertEqual(repr(found), repr((leaves, records)))

    def changed(self, changes):
        """The books with other contents at some ways of names and indexes."""
        records = assemble(self.BOOK, shred(self.BOOK, self.BOOKS))
        for (*way, last), value in changes:
            place = records
            for step in way:
                place = place[step]
            place[last] = value
        return records

    def test_whole_octets(self):
        self.assert_recovered(self.blocks(), (0, 1, 2, 3), self.BOOKS)

    def test_lost_column(self):
        for lost in ((0,), (1, 200), framed((3, 12, 12, 2)), framed((2, 8, 8, 2, 4))):
            blocks = self.blocks()
            blocks[0] = lost
            records = self.changed([((number, "id"), 0) for number in range(3)])
            self.assert_recovered(blocks, (1, 2, 3), records)

    def test_lost_column_within_a_group(self):
        blocks = self.blocks()
        blocks[1] = (3, 1, 2, 3)
        records = self.changed([((0, "authors", 0, "name"), ""), ((0, "authors", 1, "name"), ""), ((2, "authors", 0, "name"), "")])
        self.assert_recovered(blocks, (0, 2, 3), records)
        blocks = self.blocks()
        blocks[2] = (0,)
        records = self.changed([((0, "authors", 0, "mails"), []), ((2, "authors", 0, "mails"), [])])
        self.assert_recovered(blocks, (0, 1, 3), records)

    def test_columns_that_do_not_fit_the_others_are_treated_as_missing(self):
        blocks = self.blocks()
        blocks[3] = framed((2, 8, 8))
        self.assert_recovered(blocks, (0, 1, 2), self.changed([((0, "print"), None), ((2, "print"), None)]))

    def test_all_lost(self):
        self.assert_recovered([(0,)] * 4, (), [])
        self.assert_recovered([(1, 128)] * 4, (), [])

    def test_empty_columns(self):
        self.assert_recovered([(1, 0)] * 4, (0, 1, 2, 3), [])
        self.assert_recovered([(0,), (1, 0), (0,), (1, 128)], (1,), [])

    def test_more_records_than_a_list_of_records(self):
        octets = (*framed((*number(1000), *number(4000), *number(4000), *[2] * 1000)), 0)
        self.assertEqual(recover(PAIR, octets), ((0,), [{"id": 1, "tags": []}] * 1000))

    def test_answers_are_new(self):
        octets = tuple(itertools.chain(*self.blocks()))
        leaves, records = recover(self.BOOK, octets)
        self.assertIs(type(leaves), tuple)
        records[0]["authors"].clear()
        records.pop()
        self.assertEqual(recover(self.BOOK, octets), ((0, 1, 2, 3), self.BOOKS))

    def test_bad_octets(self):
        for octets in (None, [], (), (0,), (0, 0, 0), (0, 0, 0, 0, 0), (0, 0, 0, 256), (0, 0, False, 0), [0, 0, 0, 0]):
            with self.assertRaises(BadOctets):
                recover(self.BOOK, octets)

    def test_drawn_octets(self):
        """To recover is to unpack, to salvage, to treat other columns as missing, and to complete."""
        for source in draws(300):
            schema = drawn_schema(source)
            columns, others = [shred(schema, drawn_records(source, schema, 3)) for _ in range(2)]
            octets = []
            for leaf in range(len(schema)):
                parts = [source.choice((columns, columns, others))[leaf] if leaf == place else None for place in range(len(schema))]
                block = list(blocks_of(pack(schema, tuple(parts)), len(schema))[leaf])
                if block and source.random() < 0.2:
                    block[source.randrange(len(block))] = source.randrange(256)
                octets.extend(framed(block))
            leaves, records = recover(schema, tuple(octets))
            parts = unpack(schema, tuple(octets))
            self.assertEqual(leaves, salvage(schema, parts))
            kept = tuple([parts[leaf] if leaf in leaves else None for leaf in range(len(schema))])
            self.assertEqual(records, assemble(schema, complete(schema, kept)))


if __name__ == "__main__":
    unittest.main()
