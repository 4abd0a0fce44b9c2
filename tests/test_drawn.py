"""Points 8 and 10 to 19 over drawn schemas, nested up to three deep, and drawn records."""

import copy
import unittest

from columnkin.columns import validate
from columnkin.packing import pack, recover, unpack
from columnkin.records import assemble, check_records, shred
from columnkin.repair import complete, salvage
from plain import columns_of, damaged, drawn_columns, draws, drawn_records, drawn_schema, only, with_losses


def greatest_number(schema, parts):
    """The greatest number of leaves whose columns are there and are consistent, by trying all sets of them."""
    leaves = range(len(schema))
    fitting = {
        first: sum([1 << second for second in leaves if validate(schema, only(parts, (first, second))) is None])
        for first in leaves if parts[first] is not None
    }
    there = sum([1 << leaf for leaf in fitting])
    best = 0
    for chosen in range(1 << len(schema)):
        if chosen & ~there == 0 and all([chosen & ~fitting[leaf] == 0 for leaf in fitting if chosen >> leaf & 1]):
            best = max(best, chosen.bit_count())
    return best


class DrawnTest(unittest.TestCase):
    def test_drawn_schemas_are_of_all_sorts(self):
        """The other tests of this file mean little if the draws do not reach what the document speaks of."""
        schemas = [drawn_schema(source) for source in draws(300)]
        self.assertEqual({len(schema) for schema in schemas}, set(range(1, 13)))
        self.assertEqual({len(way) for schema in schemas for way in schema.ways}, {2, 3, 4})
        leaves = {leaf[1:] for schema in schemas for leaf in schema.leaves}
        levels = [(repetition, definition) for definition in range(4) for repetition in range(definition + 1)]
        self.assertEqual(leaves, {(kind, *pair) for kind in ("int", "text", "flag") for pair in levels})

    def test_shred_and_assemble_undo_each_other(self):
        for source in draws(400):
            schema = drawn_schema(source)
            records = drawn_records(source, schema)
            check_records(schema, records)
            before = copy.deepcopy(records)
            columns = shred(schema, records)
            self.assertEqual(columns, columns_of(schema, records))
            self.assertIs(validate(schema, columns), None)
            self.assertEqual(repr(assemble(schema, columns)), repr(records))
            self.assertEqual(repr(records), repr(before))
            self.assertEqual(repr(shred(schema, assemble(schema, columns))), repr(columns))

    def test_pack_and_unpack_undo_each_other(self):
        for source in draws(300):
            schema = drawn_schema(source)
            columns, others = drawn_columns(source, schema), drawn_columns(source, schema)
            mixed = tuple([source.choice(pair) for pair in zip(columns, others)])
            for parts in (columns, with_losses(source, columns), mixed, with_losses(source, mixed)):
                octets = pack(schema, parts)
                self.assertTrue(all([type(octet) is int and 0 <= octet <= 255 for octet in octets]))
                self.assertEqual(repr(unpack(schema, octets)), repr(parts))
                self.assertEqual(pack(schema, unpack(schema, octets)), octets)

    def test_octets_of_records_are_recovered(self):
        for source in draws(100):
            schema = drawn_schema(source)
            records = drawn_records(source, schema)
            found = recover(schema, pack(schema, shred(schema, records)))
            self.assertEqual(repr(found), repr((tuple(range(len(schema))), records)))

    def test_completed_columns(self):
        for source in draws(400):
            schema = drawn_schema(source)
            columns = drawn_columns(source, schema)
            parts = with_losses(source, columns)
            found = complete(schema, parts)
            self.assertIs(validate(schema, found), None)
            self.assertEqual(len(found), len(columns))
            for leaf in range(len(schema)):
                if parts[leaf] is not None:
                    self.assertEqual(repr(found[leaf]), repr(columns[leaf]))
                elif any([column is not None for column in parts]):
                    self.assertLessEqual(len(found[leaf]), len(columns[leaf]))
                else:
                    self.assertEqual(found[leaf], ())
            self.assertEqual(shred(schema, assemble(schema, found)), found)
            self.assertEqual(complete(schema, found), found)

    def test_completed_columns_of_consistent_ones_belong_to_records(self):
        """Columns that are consistent are found among those that are written of the records of the completed ones."""
        for source in draws(200):
            schema = drawn_schema(source)
            parts = damaged(source, schema)
            kept = only(parts, salvage(schema, parts))
            written = columns_of(schema, assemble(schema, complete(schema, kept)))
            self.assertEqual(only(written, salvage(schema, parts)), kept)

    def test_salvaged_columns(self):
        for source in draws(250):
            schema = drawn_schema(source)
            parts = damaged(source, schema)
            leaves = salvage(schema, parts)
            self.assertEqual(leaves, tuple(sorted(set(leaves))))
            self.assertTrue(all([parts[leaf] is not None for leaf in leaves]))
            self.assertIs(validate(schema, only(parts, leaves)), None)
            self.assertEqual(len(leaves), greatest_number(schema, parts))


if __name__ == "__main__":
    unittest.main()
