"""Point 21 over drawn schemas and drawn records: what columns tell is what a walk through the records finds."""

import unittest

from columnkin.asks import counts, holding, picked, totals
from columnkin.columns import validate
from columnkin.errors import Inconsistent, NoSuchPath, WrongKind
from columnkin.schemas import Schema
from plain import (
    columns_of, damaged, draws, drawn_records, drawn_schema, drawn_value, fields_of, found_in, paths_of, with_fields,
)


def drawn_case(source):
    """A schema, records, and their columns."""
    schema = drawn_schema(source)
    records = drawn_records(source, schema)
    return schema, records, columns_of(schema, records)


class DrawnAsksTest(unittest.TestCase):
    def test_picked(self):
        for source in draws(300):
            schema, records, columns = drawn_case(source)
            paths = [leaf[0] for leaf in schema.leaves]
            chosen = source.sample(paths, source.randint(1, len(paths)))
            fields = fields_of(schema.fields, chosen)
            smaller, found = picked(schema, columns, tuple(chosen))
            self.assertEqual(smaller, Schema(fields))
            self.assertEqual([leaf[0] for leaf in smaller.leaves], [path for path in paths if path in chosen])
            self.assertEqual(repr(found), repr(columns_of(smaller, [with_fields(fields, record) for record in records])))

    def test_counts(self):
        for source in draws(300):
            schema, records, columns = drawn_case(source)
            for path, kind in paths_of(schema.fields):
                expected = [len(found_in(schema.fields, record, path.split("."))) for record in records]
                self.assertEqual(repr(counts(schema, columns, path)), repr(expected))

    def test_totals(self):
        for source in draws(300):
            schema, records, columns = drawn_case(source)
            for path, kind in paths_of(schema.fields):
                if kind == "int":
                    expected = [sum(found_in(schema.fields, record, path.split("."))) for record in records]
                    self.assertEqual(repr(totals(schema, columns, path)), repr(expected))
                else:
                    with self.assertRaises(NoSuchPath if isinstance(kind, tuple) else WrongKind):
                        totals(schema, columns, path)

    def test_holding(self):
        for source in draws(300):
            schema, records, columns = drawn_case(source)
            for path, kind, *levels in schema.leaves:
                found = [found_in(schema.fields, record, path.split(".")) for record in records]
                for value in (drawn_value(source, kind), *[values[0] for values in found if values]):
                    expected = [number for number in range(len(records)) if value in found[number]]
                    self.assertEqual(holding(schema, columns, path, value), expected)
                for other in {"int": (True, ""), "text": (0, False), "flag": (1, 0, "")}[kind]:
                    with self.assertRaises(WrongKind):
                        holding(schema, columns, path, other)

    def test_columns_that_do_not_belong_together(self):
        for source in draws(100):
            schema = drawn_schema(source)
            parts = damaged(source, schema)
            if None in parts or validate(schema, parts) is not None:
                for call, *others in (
                    (picked, ()), (counts, "?"), (totals, "?"), (holding, "?", None), (picked, (schema.leaves[0][0],)),
                ):
                    with self.assertRaises(Inconsistent):
                        call(schema, parts, *others)


if __name__ == "__main__":
    unittest.main()
