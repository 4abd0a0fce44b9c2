"""The interface: every name stands in its file, with the arguments that the document lists."""

import inspect
import unittest

from columnkin import asks, columns, packing, papers, records, repair, schemas, tables

FUNCTIONS = (
    (schemas, "common_group", ["schema", "first", "second"]),
    (columns, "is_value", ["value", "kind"]),
    (columns, "check_parts", ["schema", "parts"]),
    (columns, "is_admissible", ["schema", "leaf", "column", "index"]),
    (columns, "first_fault", ["schema", "leaf", "column"]),
    (columns, "skeleton", ["column", "repetition", "definition"]),
    (columns, "validate", ["schema", "parts"]),
    (records, "check_records", ["schema", "records"]),
    (records, "shred", ["schema", "records"]),
    (records, "assemble", ["schema", "columns"]),
    (packing, "pack", ["schema", "parts"]),
    (packing, "unpack", ["schema", "octets"]),
    (packing, "recover", ["schema", "octets"]),
    (repair, "complete", ["schema", "parts"]),
    (repair, "salvage", ["schema", "parts"]),
    (papers, "judge", ["schema", "parts", "paper"]),
    (papers, "paper_for", ["schema", "parts"]),
    (asks, "picked", ["schema", "columns", "paths"]),
    (asks, "counts", ["schema", "columns", "path"]),
    (asks, "totals", ["schema", "columns", "path"]),
    (asks, "holding", ["schema", "columns", "path", "value"]),
)
CLASSES = (
    (schemas.Schema, "columnkin.schemas", (
        ("__init__", ["self", "fields"]), ("__eq__", None), ("__len__", ["self"]), ("place_of", ["self", "path"]),
    )),
    (tables.Table, "columnkin.tables", (
        ("__init__", ["self", "schema"]), ("append", ["self", "records"]), ("truncate", ["self", "count"]),
        ("adopt", ["self", "schema"]), ("undo", ["self"]), ("record", ["self", "number"]), ("records", ["self"]),
        ("tried", ["self"]), ("foresee", ["self", "records"]), ("__len__", ["self"]), ("__iter__", ["self"]),
    )),
)


class InterfaceTest(unittest.TestCase):
    def test_functions_stand_in_their_files(self):
        for module, name, arguments in FUNCTIONS:
            with self.subTest(name=name):
                function = getattr(module, name)
                self.assertTrue(inspect.isfunction(function))
                self.assertEqual(function.__module__, module.__name__)
                self.assertEqual(list(inspect.signature(function).parameters), arguments)

    def test_classes_and_their_methods_stand_in_their_files(self):
        for kind, file, methods in CLASSES:
            self.assertTrue(inspect.isclass(kind))
            self.assertEqual(kind.__module__, file)
            for name, arguments in methods:
                with self.subTest(name=name):
                    self.assertIn(name, vars(kind))
                    if arguments is not None:
                        self.assertEqual(list(inspect.signature(vars(kind)[name]).parameters), arguments)

    def test_attributes_are_set_at_once(self):
        schema = schemas.Schema((("a", "required", "int"),))
        self.assertEqual((schema.fields, schema.leaves), ((("a", "required", "int"),), (("a", "int", 0, 0),)))
        table = tables.Table(schema)
        self.assertEqual((table.schema, table.columns), (schema, ((),)))

    def test_arguments_may_be_named(self):
        schema = schemas.Schema(fields=(("a", "required", "int"), ("b", "required", "int")))
        self.assertEqual(schema.place_of(path="b"), 1)
        self.assertEqual(schemas.common_group(schema=schema, first=0, second=1), ("", 0, 0))
        self.assertIs(columns.is_value(value=1, kind="int"), True)
        self.assertIs(columns.check_parts(schema=schema, parts=(None, None)), None)
        self.assertIs(columns.is_admissible(schema=schema, leaf=0, column=((0, 0, 1),), index=0), True)
        self.assertIs(columns.first_fault(schema=schema, leaf=0, column=()), None)
        self.assertEqual(columns.skeleton(column=((0, 0, 1),), repetition=0, definition=0), ((0, 0),))
        self.assertIs(columns.validate(schema=schema, parts=(None, None)), None)
        self.assertIs(records.check_records(schema=schema, records=[]), None)
        self.assertEqual(records.shred(schema=schema, records=[]), ((), ()))
        self.assertEqual(records.assemble(schema=schema, columns=((), ())), [])
        self.assertEqual(packing.pack(schema=schema, parts=(None, None)), (0, 0))
        self.assertEqual(packing.unpack(schema=schema, octets=(0, 0)), (None, None))
        self.assertEqual(packing.recover(schema=schema, octets=(0, 0)), ((), []))
        self.assertEqual(repair.complete(schema=schema, parts=(None, ())), ((), ()))
        self.assertEqual(repair.salvage(schema=schema, parts=(None, ())), (1,))

    def test_arguments_of_papers_asks_and_tables_may_be_named(self):
        schema = schemas.Schema(fields=(("a", "required", "int"), ("b", "required", "int")))
        self.assertIs(papers.judge(schema=schema, parts=(None, None), paper=("records", [])), True)
        self.assertEqual(papers.paper_for(schema=schema, parts=(None, None)), ("records", []))
        found = (schemas.Schema((("b", "required", "int"),)), ((),))
        self.assertEqual(asks.picked(schema=schema, columns=((), ()), paths=("b",)), found)
        self.assertEqual(asks.counts(schema=schema, columns=((), ()), path="b"), [])
        self.assertEqual(asks.totals(schema=schema, columns=((), ()), path="b"), [])
        self.assertEqual(asks.holding(schema=schema, columns=((), ()), path="b", value=1), [])
        table = tables.Table(schema=schema)
        self.assertEqual(table.append(records=[{"a": 1, "b": 2}]), 1)
        self.assertEqual(table.foresee(records=[]), 1)
        self.assertEqual(table.record(number=0), {"a": 1, "b": 2})
        self.assertIs(table.adopt(schema=schema), None)
        self.assertEqual(table.truncate(count=0), 1)


class ExamplesTest(unittest.TestCase):
    """The examples of the document, with just the answers that it shows."""

    def test_schemas(self):
        author = (("name", "required", "text"), ("mails", "repeated", "text"))
        schema = schemas.Schema((
            ("id", "required", "int"),
            ("authors", "repeated", author),
            ("print", "optional", (("city", "optional", "text"),)),
        ))
        self.assertEqual(repr(schema.leaves), (
            "(('id', 'int', 0, 0), ('authors.name', 'text', 1, 1), "
            "('authors.mails', 'text', 2, 2), ('print.city', 'text', 0, 2))"
        ))
        groups = schemas.common_group(schema, 1, 2), schemas.common_group(schema, 2, 3)
        self.assertEqual(repr(groups), "(('authors', 1, 1), ('', 0, 0))")

    def test_columns(self):
        schema = schemas.Schema((("id", "required", "int"), ("tags", "repeated", "text")))
        answers = (
            columns.validate(
                schema, (((0, 0, 1), (0, 0, 2)), ((0, 1, "a"), (1, 1, "b"), (0, 0, None)))
            ),
            columns.validate(schema, (((0, 0, 1),), ((0, 0, None), (0, 0, None)))),
        )
        self.assertEqual(repr(answers), "(None, ('pair', 0, 1, ''))")

    def test_records(self):
        schema = schemas.Schema((("id", "required", "int"), ("tags", "repeated", "text")))
        found = records.shred(schema, [{"id": 1, "tags": ["a", "b"]}, {"id": 2, "tags": []}])
        self.assertEqual(repr(found), "(((0, 0, 1), (0, 0, 2)), ((0, 1, 'a'), (1, 1, 'b'), (0, 0, None)))")
        found = records.assemble(schema, (((0, 0, 1), (0, 0, 2)), ((0, 1, "a"), (1, 1, "b"), (0, 0, None))))
        self.assertEqual(repr(found), "[{'id': 1, 'tags': ['a', 'b']}, {'id': 2, 'tags': []}]")

    def test_packing(self):
        schema = schemas.Schema((("id", "required", "int"), ("tags", "repeated", "text")))
        found = packing.pack(schema, (((0, 0, 1), (0, 0, -2)), None))
        self.assertEqual(repr(found), "(5, 2, 8, 8, 2, 3, 0)")
        found = packing.unpack(schema, (5, 2, 8, 8, 2, 3, 1, 5))
        self.assertEqual(repr(found), "(((0, 0, 1), (0, 0, -2)), None)")


if __name__ == "__main__":
    unittest.main()
