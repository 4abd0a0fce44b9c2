"""Points 22 and 23 over drawn schemas: a table holds the same as a list of records that is kept beside it."""

import copy
import unittest

from columnkin.errors import BadRecord, CannotAdopt, NoSuchRecord, TooMany
from columnkin.schemas import Schema
from columnkin.tables import Table
from plain import columns_of, draws, drawn_records, drawn_schema, paths_of, with_fields, with_further_fields


class Stop(Exception):
    """An error that ends a trial."""


class Model:
    """A table, and beside it its schema and its records, and what they were ahead of each change."""

    def __init__(self, schema):
        self.table = Table(schema)
        self.states = [(schema, [])]
        self.reached = set()

    def change(self, source):
        """Make a drawn change, and keep what follows."""
        schema, records = self.states[-1]
        name = source.choice(("append", "append", "truncate", "adopt", "undo", "tried", "foresee"))
        getattr(self, name)(source, schema, records)

    def append(self, source, schema, records):
        added = drawn_records(source, schema, source.choice((1, 3, 60)))
        grown = records + added
        if self.is_too_much(schema, grown):
            self.raises(TooMany, self.table.append, added)
        else:
            assert self.table.append(added) == len(grown)
            self.states.append((schema, grown))
        self.raises(BadRecord, self.table.append, added + [None])

    def is_too_much(self, schema, records):
        return len(records) > 100 or any([len(column) > 1000 for column in columns_of(schema, records)])

    def truncate(self, source, schema, records):
        count = source.randint(0, len(records) + 1)
        if count > len(records):
            self.raises(NoSuchRecord, self.table.truncate, count)
        else:
            assert self.table.truncate(count) == len(records) - count
            self.states.append((schema, records[:count]))

    def adopt(self, source, schema, records):
        fields = with_further_fields(source, schema.fields, 12 - len(schema))
        other = Schema(fields)
        if len(other) > len(schema):
            self.reached.add("further fields")
            less = Table(other)
            self.raises(CannotAdopt, less.adopt, schema)
        assert self.table.adopt(other) is None
        self.states.append((other, [with_fields(fields, record) for record in records]))

    def undo(self, source, schema, records):
        assert self.table.undo() is (len(self.states) > 1)
        if len(self.states) > 1:
            self.states.pop()
            self.reached.add("undone")

    def tried(self, source, schema, records):
        kept = list(self.states)
        ends = source.random() < 0.5
        try:
            with self.table.tried() as held:
                assert held is self.table
                for _ in range(source.randint(0, 4)):
                    self.change(source)
                    self.check()
                if ends:
                    raise Stop
        except Stop:
            assert ends
        self.states = kept

    def foresee(self, source, schema, records):
        added = drawn_records(source, schema, source.choice((1, 60)))
        if self.is_too_much(schema, records + added):
            self.raises(TooMany, self.table.foresee, added)
        else:
            assert self.table.foresee(added) == len(records + added)

    def raises(self, error, call, argument):
        self.reached.add(error.__name__)
        try:
            call(argument)
        except error as found:
            assert type(found) is error
        else:
            raise AssertionError("no error was raised")

    def check(self):
        """The table holds what stands beside it."""
        schema, records = self.states[-1]
        columns = columns_of(schema, records)
        assert self.table.schema == schema
        assert repr(self.table.columns) == repr(columns)
        assert repr(list(self.table)) == repr(list(columns))
        assert len(self.table) == len(records)
        assert repr(self.table.records()) == repr(records)
        for number in {0, len(records) // 2, len(records) - 1} & set(range(len(records))):
            assert repr(self.table.record(number)) == repr(records[number])


class DrawnTablesTest(unittest.TestCase):
    def test_drawn_changes(self):
        reached = set()
        for source in draws(100):
            model = Model(drawn_schema(source))
            for _ in range(source.randint(1, 15)):
                model.change(source)
                model.check()
            while len(model.states) > 1:
                model.undo(source, None, None)
                model.check()
            self.assertIs(model.table.undo(), False)
            reached |= model.reached
        self.assertEqual(reached, {"BadRecord", "TooMany", "NoSuchRecord", "CannotAdopt", "further fields", "undone"})

    def test_schemas_that_differ_in_a_way_are_not_adopted(self):
        """A table adopts just the schemas in which each of its leaves is found, with its kind and the rules on its way."""
        taken = []
        for source in draws(300):
            schema = drawn_schema(source)
            fields = changed_in_one_field(source, with_further_fields(source, schema.fields, 12 - len(schema)))
            right = set(ways_in(schema.fields)) <= set(ways_in(fields))
            records = drawn_records(source, schema, 3)
            table = Table(schema)
            table.append(copy.deepcopy(records))
            if right:
                table.adopt(Schema(fields))
                records = [with_fields(fields, record) for record in records]
            else:
                with self.assertRaises(CannotAdopt):
                    table.adopt(Schema(fields))
            self.assertEqual(repr(table.records()), repr(records))
            taken.append(right)
        self.assertGreater(taken.count(True), 20)
        self.assertGreater(taken.count(False), 20)


def ways_in(fields, above=()):
    """For each leaf, the names and rules on its way, and its kind."""
    found = []
    for name, rule, kind in fields:
        way = (*above, (name, rule))
        found.extend(ways_in(kind, way) if isinstance(kind, tuple) else [(way, kind)])
    return found


def changed_in_one_field(source, fields):
    """The fields, one of them at any depth with another rule, another kind, another name, or left out."""
    path, kind = source.choice(paths_of(fields))
    return changed_at(source, fields, path.split("."))


def changed_at(source, fields, path):
    changed = []
    for name, rule, kind in fields:
        if name == path[0] and len(path) > 1:
            changed.append((name, rule, changed_at(source, kind, path[1:])))
        elif name == path[0]:
            changed.extend(source.choice((
                [(name, source.choice(("required", "optional", "repeated")), kind)],
                [(name, rule, source.choice(("int", "text", "flag")))],
                [("y", rule, kind)],
                [] if len(fields) > 1 else [("y", rule, kind)],
            )))
        else:
            changed.append((name, rule, kind))
    return tuple(changed)


if __name__ == "__main__":
    unittest.main()
