"""Points 3 and 22: tables, their changes, and how these are undone."""

import copy
import unittest

from columnkin.errors import BadRecord, CannotAdopt, KinError, NoSuchRecord, TooMany
from columnkin.records import shred
from columnkin.schemas import Schema
from columnkin.tables import Table

TAGS = Schema((("id", "required", "int"), ("tags", "repeated", "text")))
ONE, TWO, THREE = {"id": 1, "tags": ["a", "b"]}, {"id": 2, "tags": []}, {"id": 3, "tags": ["c"]}
BAD_RECORDS = (
    None, 0, True, "", (), (ONE,), ONE, {0: ONE}, [None], [[]], [ONE, None], [{}], [{"id": 1}], [{"tags": [], "id": 1}],
    [{"id": 1, "tags": [], "x": 1}], [{"id": True, "tags": []}], [{"id": 1, "tags": None}], [{"id": 1, "tags": [1]}],
    [{"id": 1, "tags": ["a"] * 101}], [{"id": 2147483648, "tags": []}], [ONE] * 101, [TWO] * 101,
)
NO_COUNTS = (
    -1, -2, -(10 ** 30), 10 ** 30, True, False, None, 0.0, 1.0, "", "0", "1", b"0", (), (0,), [], [1], {}, object(), TAGS,
)


def table_of(schema, *groups):
    """A table to which these lists of records were appended."""
    table = Table(schema)
    for records in groups:
        table.append(records)
    return table


class TableTest(unittest.TestCase):
    def assert_table(self, table, schema, records):
        """The table has the schema and the records, and tells so in each way."""
        columns = shred(schema, records)
        self.assertEqual(table.schema, schema)
        self.assertEqual(repr(table.columns), repr(columns))
        self.assertEqual(repr(table.records()), repr(records))
        self.assertEqual(repr([table.record(number) for number in range(len(table))]), repr(records))
        self.assertEqual(len(table), len(records))
        self.assertEqual(repr(list(table)), repr(list(columns)))

    def assert_unchanged(self, table, error, call, *arguments):
        """The call raises the error, and leaves the table as it is, its changes that can be undone included."""
        before = copy.deepcopy(table)
        with self.assertRaises(error):
            call(*arguments)
        after = copy.deepcopy(table)
        self.assert_table(after, before.schema, before.records())
        while before.undo():
            self.assertIs(after.undo(), True)
            self.assert_table(after, before.schema, before.records())
        self.assertIs(after.undo(), False)


class ReadingTest(TableTest):
    def test_new_table(self):
        table = Table(TAGS)
        self.assert_table(table, TAGS, [])
        self.assertIs(table.schema, TAGS)
        self.assertEqual(table.columns, ((), ()))
        self.assertIs(table.undo(), False)
        self.assertEqual((len(table), list(table), table.records()), (0, [(), ()], []))

    def test_tables_share_nothing(self):
        first, second = Table(TAGS), Table(TAGS)
        first.append([ONE])
        self.assert_table(second, TAGS, [])
        self.assertIs(second.undo(), False)
        self.assert_table(first, TAGS, [ONE])

    def test_length_counts_records(self):
        table = table_of(TAGS, [ONE, TWO])
        self.assertEqual(len(table), 2)
        nested = Schema((("g", "repeated", (("x", "repeated", "int"),)),))
        self.assertEqual(len(table_of(nested, [{"g": [{"x": [1, 2]}, {"x": [3]}]}, {"g": []}, {"g": [{"x": []}]}])), 3)

    def test_iteration_gives_the_columns(self):
        table = table_of(TAGS, [ONE, TWO])
        self.assertEqual([column for column in table], [((0, 0, 1), (0, 0, 2)), ((0, 1, "a"), (1, 1, "b"), (0, 0, None))])
        self.assertEqual(tuple(table), table.columns)
        self.assertIs(type(table.columns), tuple)

    def test_records_by_number(self):
        table = table_of(TAGS, [ONE, TWO], [THREE])
        self.assertEqual([table.record(0), table.record(1), table.record(2)], [ONE, TWO, THREE])

    def test_no_such_record(self):
        table = table_of(TAGS, [ONE, TWO], [THREE])
        for number in (*NO_COUNTS, 3, 4, 100, 101):
            with self.subTest(number=number):
                with self.assertRaises(NoSuchRecord):
                    table.record(number)
        for number in (*NO_COUNTS, 0, 1):
            with self.assertRaises(NoSuchRecord):
                Table(TAGS).record(number)

    def test_records_are_new_each_time(self):
        table = table_of(TAGS, [ONE, TWO])
        for found in (table.records(), [table.record(0), table.record(1)]):
            found[0]["tags"].append("z")
            found[1]["id"] = 9
            found.append(THREE)
            self.assert_table(table, TAGS, [ONE, TWO])


class AppendTest(TableTest):
    def test_records_come_behind_the_others(self):
        table = Table(TAGS)
        self.assertEqual(repr(table.append([ONE])), "1")
        self.assertEqual(repr(table.append([TWO, THREE])), "3")
        self.assert_table(table, TAGS, [ONE, TWO, THREE])
        self.assertEqual(table.append([]), 3)
        self.assert_table(table, TAGS, [ONE, TWO, THREE])
        self.assertEqual(table.append([ONE]), 4)
        self.assert_table(table, TAGS, [ONE, TWO, THREE, ONE])

    def test_what_was_appended_is_kept_apart(self):
        records = copy.deepcopy([ONE, TWO])
        table = table_of(TAGS, records)
        self.assertEqual(records, [ONE, TWO])
        records[0]["tags"].append("z")
        records.append(THREE)
        self.assert_table(table, TAGS, [ONE, TWO])

    def test_bad_records(self):
        for records in BAD_RECORDS:
            for groups in ((), ([ONE],), ([ONE, TWO], [THREE]), ([ONE] * 100,)):
                with self.subTest(records=records):
                    table = table_of(TAGS, *groups)
                    self.assert_unchanged(table, BadRecord, table.append, records)

    def test_a_hundred_records(self):
        self.assertEqual(Table(TAGS).append([TWO] * 100), 100)
        for many in (0, 1, 50, 99, 100):
            table = table_of(TAGS, [TWO] * many)
            self.assertEqual(table.append([THREE] * (100 - many)), 100)
            self.assert_table(table, TAGS, [TWO] * many + [THREE] * (100 - many))
            self.assertEqual(table.append([]), 100)
            if many > 0:
                table = table_of(TAGS, [TWO] * many)
                self.assert_unchanged(table, TooMany, table.append, [THREE] * (101 - many))

    def test_a_thousand_entries(self):
        full, half = {"id": 1, "tags": ["a"] * 100}, {"id": 2, "tags": ["b"] * 50}
        table = table_of(TAGS, [full] * 9)
        self.assertEqual(table.append([half, half]), 11)
        self.assertEqual(len(table.columns[1]), 1000)
        self.assert_table(table, TAGS, [full] * 9 + [half] * 2)
        for records in ([TWO], [ONE], [THREE], [full] * 10, [TWO] * 89, [full] * 89):
            table = table_of(TAGS, [full] * 9, [half, half])
            self.assert_unchanged(table, TooMany, table.append, records)
        table = table_of(TAGS, [full] * 9, [half])
        self.assert_unchanged(table, TooMany, table.append, [{"id": 1, "tags": ["c"] * 51}])
        self.assertEqual(table.append([{"id": 1, "tags": ["c"] * 50}]), 11)

    def test_a_thousand_entries_at_once(self):
        full = {"id": 1, "tags": ["a"] * 100}
        self.assertEqual(Table(TAGS).append([full] * 10), 10)
        for groups in ((), ([ONE],)):
            table = table_of(TAGS, *groups)
            self.assert_unchanged(table, TooMany, table.append, [full] * 10 + [TWO])

    def test_any_column_may_be_too_long(self):
        lists = (("a", "repeated", "int"), ("b", "repeated", "int"), ("c", "repeated", "int"))
        schema = Schema(lists)
        for long in "abc":
            record = {name: [1] * (100 if name == long else 1) for name in "abc"}
            table = table_of(schema, [record] * 10)
            self.assert_unchanged(table, TooMany, table.append, [{name: [] for name in "abc"}])

    def test_bad_records_come_ahead_of_too_many(self):
        for records in ([THREE, {"id": 1}], [{"id": 1, "tags": ["a"] * 101}]):
            table = table_of(TAGS, [ONE] * 100)
            self.assert_unchanged(table, BadRecord, table.append, records)
        table = Table(TAGS)
        self.assert_unchanged(table, BadRecord, table.append, [{"id": 1, "tags": ["a"] * 100}] * 20 + [None])
        self.assert_unchanged(table, BadRecord, table.append, [{"id": 1, "tags": ["a"] * 100}] * 101)


class TruncateTest(TableTest):
    def test_the_first_records_are_kept(self):
        records = [ONE, TWO, THREE, ONE]
        for count in range(5):
            table = table_of(TAGS, records)
            self.assertEqual(repr(table.truncate(count)), repr(4 - count))
            self.assert_table(table, TAGS, records[:count])

    def test_empty_table(self):
        table = Table(TAGS)
        self.assertEqual(table.truncate(0), 0)
        self.assert_table(table, TAGS, [])
        self.assert_unchanged(table, NoSuchRecord, table.truncate, 1)

    def test_a_hundred_records(self):
        table = table_of(TAGS, [ONE] * 100)
        self.assertEqual(table.truncate(100), 0)
        self.assertEqual(table.truncate(1), 99)
        self.assert_table(table, TAGS, [ONE])

    def test_no_such_record(self):
        for count in (*NO_COUNTS, 4, 5, 100, 101):
            with self.subTest(count=count):
                table = table_of(TAGS, [ONE, TWO], [THREE])
                self.assert_unchanged(table, NoSuchRecord, table.truncate, count)

    def test_further_records_behind_it(self):
        table = table_of(TAGS, [ONE, TWO])
        table.truncate(1)
        self.assertEqual(table.append([THREE]), 2)
        self.assert_table(table, TAGS, [ONE, THREE])


class UndoTest(TableTest):
    def test_each_kind_of_change(self):
        wider = Schema((*TAGS.fields, ("more", "optional", "flag")))
        for change in (
            lambda table: table.append([THREE]), lambda table: table.append([]),
            lambda table: table.truncate(0), lambda table: table.truncate(1), lambda table: table.truncate(2),
            lambda table: table.adopt(wider), lambda table: table.adopt(TAGS), lambda table: table.adopt(Schema(TAGS.fields)),
        ):
            table = table_of(TAGS, [ONE, TWO])
            change(table)
            self.assertIs(table.undo(), True)
            self.assert_table(table, TAGS, [ONE, TWO])
            self.assertIs(table.schema, TAGS)
            self.assertIs(table.undo(), True)
            self.assert_table(table, TAGS, [])
            self.assertIs(table.undo(), False)
            self.assert_table(table, TAGS, [])

    def test_the_last_change_comes_first(self):
        wider = Schema((("more", "required", "int"), *TAGS.fields))
        table = table_of(TAGS, [ONE, TWO])
        table.adopt(wider)
        table.append([{"more": 5, **THREE}])
        table.truncate(1)
        table.append([])
        for schema, records in (
            (wider, [{"more": 0, **ONE}]),
            (wider, [{"more": 0, **ONE}, {"more": 0, **TWO}, {"more": 5, **THREE}]),
            (wider, [{"more": 0, **ONE}, {"more": 0, **TWO}]),
            (TAGS, [ONE, TWO]),
            (TAGS, []),
        ):
            self.assertIs(table.undo(), True)
            self.assert_table(table, schema, records)
        self.assertIs(table.undo(), False)
        self.assert_table(table, TAGS, [])

    def test_further_changes_behind_an_undo(self):
        table = table_of(TAGS, [ONE], [TWO])
        table.undo()
        table.append([THREE])
        self.assert_table(table, TAGS, [ONE, THREE])
        table.undo()
        self.assert_table(table, TAGS, [ONE])
        table.undo()
        self.assert_table(table, TAGS, [])
        self.assertIs(table.undo(), False)
        self.assertEqual(table.append([TWO]), 1)

    def test_a_change_that_raised_an_error_is_none(self):
        table = table_of(TAGS, [ONE], [TWO])
        for call, argument in (
            (table.append, [None]), (table.append, [ONE] * 99), (table.truncate, 3), (table.adopt, Schema(TAGS.fields[:1])),
        ):
            with self.assertRaises(KinError):
                call(argument)
        table.undo()
        self.assert_table(table, TAGS, [ONE])
        table.undo()
        self.assertIs(table.undo(), False)

    def test_many_changes(self):
        table = Table(TAGS)
        for _ in range(300):
            table.append([ONE])
            table.truncate(0)
        for number in range(600):
            self.assertEqual(len(table), number % 2)
            self.assertIs(table.undo(), True)
        self.assertIs(table.undo(), False)


class AdoptTest(TableTest):
    BOOK = Schema((
        ("id", "required", "int"),
        ("authors", "repeated", (("name", "required", "text"), ("mails", "repeated", "text"))),
        ("print", "optional", (("city", "optional", "text"),)),
    ))
    BOOKS = [
        {"id": 1, "authors": [{"name": "A", "mails": ["a", "b"]}, {"name": "B", "mails": []}], "print": None},
        {"id": 2, "authors": [], "print": {"city": "X"}},
        {"id": 3, "authors": [{"name": "C", "mails": []}], "print": {"city": None}},
    ]

    def assert_adopted(self, fields, change):
        """The table adopts the fields, and its records are then what `change` makes of copies of them."""
        records = copy.deepcopy(self.BOOKS)
        schema = Schema(fields)
        table = table_of(self.BOOK, self.BOOKS)
        self.assertIs(table.adopt(schema), None)
        self.assertIs(table.schema, schema)
        self.assert_table(table, schema, [change(record) for record in records])
        empty = Table(self.BOOK)
        self.assertIs(empty.adopt(schema), None)
        self.assert_table(empty, schema, [])

    def with_field(self, at, field):
        """The fields of the schema, with a further one: in the record, in an author or in a print."""
        record, author, print_ = list(self.BOOK.fields), list(self.BOOK.fields[1][2]), list(self.BOOK.fields[2][2])
        {"record": record, "author": author, "print": print_}[at].insert(1, field)
        found = []
        for name, rule, kind in record:
            found.append((name, rule, {"authors": tuple(author), "print": tuple(print_)}.get(name, kind)))
        return tuple(found)

    def test_equal_schemas(self):
        self.assert_adopted(self.BOOK.fields, lambda record: record)

    def test_further_fields_of_each_rule_and_kind_at_each_depth(self):
        kinds = (
            ("int", 0), ("text", ""), ("flag", False),
            ((("a", "required", "int"), ("b", "optional", "int"), ("c", "repeated", "text")), {"a": 0, "b": None, "c": []}),
        )
        for kind, made_up in kinds:
            for rule, content in (("required", made_up), ("optional", None), ("repeated", [])):
                field = ("new", rule, kind)

                def further(record):
                    """A record, or an occurrence of a group, with the field behind its first one."""
                    first, *others = record.items()
                    return dict([first, ("new", copy.deepcopy(content)), *others])

                def in_authors(record):
                    return dict(record, authors=[further(author) for author in record["authors"]])

                def in_print(record):
                    return dict(record, print=None if record["print"] is None else further(record["print"]))

                self.assert_adopted(self.with_field("record", field), further)
                self.assert_adopted(self.with_field("author", field), in_authors)
                self.assert_adopted(self.with_field("print", field), in_print)

    def test_further_groups_within_groups(self):
        inner = ("in", "required", (("x", "required", "int"), ("y", "repeated", "flag")))
        made_up = {"in": {"x": 0, "y": []}}
        for rule, content in (("required", made_up), ("optional", None), ("repeated", [])):
            self.assert_adopted(
                (("out", rule, (inner,)), *self.BOOK.fields),
                lambda record: {"out": copy.deepcopy(content), **record},
            )

    def test_fields_in_another_order(self):
        ids, authors, print_ = self.BOOK.fields
        turned = ("authors", "repeated", authors[2][::-1])
        self.assert_adopted((print_, turned, ids), lambda record: {
            "print": record["print"],
            "authors": [{"mails": author["mails"], "name": author["name"]} for author in record["authors"]],
            "id": record["id"],
        })

    def test_cannot_adopt(self):
        ids, authors, print_ = self.BOOK.fields
        name, mails = authors[2]
        for fields in (
            (authors, print_), (ids, authors), (ids, print_), (ids, ("authors", "repeated", (name,)), print_),
            (ids, ("authors", "repeated", (mails,)), print_), (("id", "required", "int"),),
            (("id", "optional", "int"), authors, print_), (("id", "repeated", "int"), authors, print_),
            (("id", "required", "text"), authors, print_), (("id", "required", "flag"), authors, print_),
            (("id", "required", (("id", "required", "int"),)), authors, print_), (("ids", "required", "int"), authors, print_),
            (ids, ("authors", "optional", authors[2]), print_), (ids, ("authors", "required", authors[2]), print_),
            (ids, ("authors", "repeated", (("name", "optional", "text"), mails)), print_),
            (ids, ("authors", "repeated", (name, ("mails", "optional", "text"))), print_),
            (ids, ("authors", "repeated", (name, ("mails", "repeated", "int"))), print_),
            (ids, ("author", "repeated", authors[2]), print_), (ids, ("authors", "repeated", "text"), print_),
            (ids, authors, ("print", "optional", "text")), (ids, authors, ("print", "repeated", print_[2])),
            (ids, authors, ("print", "optional", (("city", "required", "text"),))),
            (ids, authors, ("print", "required", print_[2])), (ids, authors, ("city", "optional", "text")),
        ):
            with self.subTest(fields=fields):
                table = table_of(self.BOOK, self.BOOKS[:1], self.BOOKS[1:])
                self.assert_unchanged(table, CannotAdopt, table.adopt, Schema(fields))
                empty = Table(self.BOOK)
                self.assert_unchanged(empty, CannotAdopt, empty.adopt, Schema(fields))

    def test_levels_alone_do_not_make_a_way(self):
        """Rules that are turned give the leaf the same levels, but not the same way."""
        ways = [
            (("g", first, (("h", second, (("x", third, "int"),)),)),)
            for first, second, third in (
                ("optional", "repeated", "required"), ("repeated", "optional", "required"),
                ("required", "repeated", "optional"), ("optional", "required", "repeated"),
                ("repeated", "required", "optional"), ("required", "optional", "repeated"),
            )
        ]
        for first in ways:
            for second in ways:
                table = Table(Schema(first))
                if first == second:
                    self.assertIs(table.adopt(Schema(second)), None)
                else:
                    self.assert_unchanged(table, CannotAdopt, table.adopt, Schema(second))

    def test_what_is_no_schema(self):
        for other in (None, 0, self.BOOK.fields, "schema", (), [], object(), Table(self.BOOK)):
            table = table_of(self.BOOK, self.BOOKS)
            self.assert_unchanged(table, CannotAdopt, table.adopt, other)

    def test_longest_columns(self):
        """A column that is made up has at most as many entries as one that is there."""
        inner = (("a", "required", "int"),)
        groups = Schema((("g", "repeated", inner),))
        records = [{"g": [{"a": 1}] * 100}] * 10
        wider = Schema((("g", "repeated", (*inner, ("b", "required", "int"), ("c", "repeated", "int"))),))
        table = table_of(groups, records)
        table.adopt(wider)
        self.assertEqual([len(column) for column in table], [1000, 1000, 1000])
        self.assert_table(table, wider, [{"g": [{"a": 1, "b": 0, "c": []}] * 100}] * 10)
        self.assert_unchanged(table, TooMany, table.append, [{"g": []}])

    def test_records_of_the_adopted_schema_can_be_appended(self):
        wider = Schema((("more", "optional", "flag"), *TAGS.fields))
        table = table_of(TAGS, [ONE])
        table.adopt(wider)
        with self.assertRaises(BadRecord):
            table.append([TWO])
        self.assertEqual(table.append([{"more": True, **TWO}]), 2)
        self.assert_table(table, wider, [{"more": None, **ONE}, {"more": True, **TWO}])


if __name__ == "__main__":
    unittest.main()
