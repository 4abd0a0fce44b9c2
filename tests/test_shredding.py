"""Points 8 and 12: columns are written of records, and records are put together from columns."""

import copy
import itertools
import unittest

from columnkin.columns import validate
from columnkin.errors import BadParts, BadRecord, Inconsistent, KinError, TooMany
from columnkin.records import assemble, shred
from columnkin.schemas import Schema
from plain import RULES, columns_of, draws, drawn_records, drawn_schema

PAIR = Schema((("id", "required", "int"), ("tags", "repeated", "text")))
BOOK = Schema((
    ("id", "required", "int"),
    ("authors", "repeated", (("name", "required", "text"), ("mails", "repeated", "text"))),
    ("print", "optional", (("city", "optional", "text"),)),
))
BOOKS = [
    {
        "id": 1,
        "authors": [{"name": "A", "mails": ["a", "b"]}, {"name": "B", "mails": []}, {"name": "C", "mails": ["c"]}],
        "print": {"city": "X"},
    },
    {"id": 2, "authors": [], "print": None},
    {"id": 3, "authors": [{"name": "D", "mails": []}], "print": {"city": None}},
]
BOOK_COLUMNS = (
    ((0, 0, 1), (0, 0, 2), (0, 0, 3)),
    ((0, 1, "A"), (1, 1, "B"), (1, 1, "C"), (0, 0, None), (0, 1, "D")),
    ((0, 2, "a"), (2, 2, "b"), (1, 1, None), (1, 2, "c"), (0, 0, None), (0, 1, None)),
    ((0, 2, "X"), (0, 0, None), (0, 1, None)),
)
# All three fields on the way are repeated.
LISTS = Schema((("g", "repeated", (("h", "repeated", (("x", "repeated", "int"),)),)),))


class BothWaysTest(unittest.TestCase):
    def assert_belong(self, schema, records, columns):
        with self.subTest(schema=schema.fields, records=records):
            before = copy.deepcopy(records)
            self.assertEqual(repr(shred(schema, records)), repr(columns))
            self.assertEqual(repr(records), repr(before))
            self.assertEqual(repr(assemble(schema, columns)), repr(records))
            self.assertIs(validate(schema, columns), None)

    def test_no_records(self):
        self.assert_belong(PAIR, [], ((), ()))
        self.assert_belong(BOOK, [], ((), (), (), ()))

    def test_books(self):
        self.assert_belong(BOOK, BOOKS, BOOK_COLUMNS)

    def test_one_field_of_each_rule(self):
        for kind, value in (("int", 0), ("text", ""), ("flag", False)):
            self.assert_belong(Schema((("a", "required", kind),)), [{"a": value}], (((0, 0, value),),))
            schema = Schema((("a", "optional", kind),))
            self.assert_belong(schema, [{"a": value}, {"a": None}], (((0, 1, value), (0, 0, None)),))
            schema = Schema((("a", "repeated", kind),))
            self.assert_belong(schema, [{"a": [value, value]}, {"a": []}], (((0, 1, value), (1, 1, value), (0, 0, None)),))

    def test_lists_that_are_empty_at_each_depth(self):
        for groups, column in (
            ([], ((0, 0, None),)),
            ([{"h": []}], ((0, 1, None),)),
            ([{"h": [{"x": []}]}], ((0, 2, None),)),
            ([{"h": [{"x": [1]}]}], ((0, 3, 1),)),
            ([{"h": []}, {"h": []}], ((0, 1, None), (1, 1, None))),
            ([{"h": [{"x": []}, {"x": []}]}], ((0, 2, None), (2, 2, None))),
            ([{"h": [{"x": [1, 2, 3]}]}], ((0, 3, 1), (3, 3, 2), (3, 3, 3))),
            (
                [{"h": [{"x": [1, 2]}, {"x": []}]}, {"h": []}, {"h": [{"x": []}, {"x": [3]}]}],
                ((0, 3, 1), (3, 3, 2), (2, 2, None), (1, 1, None), (1, 2, None), (2, 3, 3)),
            ),
        ):
            self.assert_belong(LISTS, [{"g": groups}], (column,))
            self.assert_belong(LISTS, [{"g": groups}, {"g": []}, {"g": groups}], ((*column, (0, 0, None), *column),))

    def test_the_first_occurrence_keeps_the_level_of_what_it_stands_in(self):
        schema = Schema((("g", "repeated", (("a", "repeated", "int"), ("b", "repeated", "int"))),))
        records = [{"g": [{"a": [1, 2], "b": [3, 4]}, {"a": [], "b": [5, 6]}]}]
        self.assert_belong(schema, records, (
            ((0, 2, 1), (2, 2, 2), (1, 1, None)), ((0, 2, 3), (2, 2, 4), (1, 2, 5), (2, 2, 6)),
        ))

    def test_groups_without_an_occurrence_have_an_entry_in_all_leaves(self):
        inner = (("a", "required", "int"), ("h", "repeated", (("b", "required", "int"), ("c", "optional", "flag"))))
        for rule, content in (("optional", None), ("repeated", [])):
            schema = Schema((("z", "required", "int"), ("g", rule, inner), ("y", "repeated", "text")))
            self.assert_belong(schema, [{"z": 1, "g": content, "y": ["a"]}], (
                ((0, 0, 1),), ((0, 0, None),), ((0, 0, None),), ((0, 0, None),), ((0, 1, "a"),),
            ))

    def test_required_groups_add_nothing(self):
        schema = Schema((("g", "required", (("h", "required", (("a", "required", "int"), ("b", "optional", "int"))),)),))
        self.assert_belong(schema, [{"g": {"h": {"a": 1, "b": None}}}, {"g": {"h": {"a": 2, "b": 3}}}], (
            ((0, 0, 1), (0, 0, 2)), ((0, 0, None), (0, 1, 3)),
        ))

    def test_all_rules_three_deep(self):
        for outer, inner, last in itertools.product(RULES, repeat=3):
            schema = Schema((("g", outer, (("h", inner, (("x", last, "int"), ("y", "required", "flag"))),)),))
            lasts = {"required": [7], "optional": [None, 7], "repeated": [[], [7], [7, 8, 9]]}[last]
            found = [{"x": content, "y": True} for content in lasts]
            for rule, name in ((inner, "h"), (outer, "g")):
                contents = {"required": found, "optional": [None, *found], "repeated": [[], found[:1], found, found[::-1]]}
                found = [{name: content} for content in contents[rule]]
            self.assert_belong(schema, found, columns_of(schema, found))

    def test_drawn_records(self):
        for source in draws(400):
            schema = drawn_schema(source)
            records = drawn_records(source, schema)
            columns = columns_of(schema, records)
            if max([len(column) for column in columns]) <= 1000:
                self.assert_belong(schema, records, columns)


class ShredTest(unittest.TestCase):
    def test_columns_of_a_thousand_entries(self):
        schema = Schema((("a", "repeated", "int"), ("b", "optional", "flag")))
        records = [{"a": [1] * 100, "b": None}] * 10
        columns = shred(schema, records)
        self.assertEqual([len(column) for column in columns], [1000, 10])
        self.assertEqual(columns, columns_of(schema, records))
        for more in ({"a": [1], "b": None}, {"a": [], "b": None}, {"a": [1] * 100, "b": True}):
            with self.assertRaises(TooMany):
                shred(schema, [*records, more])
            with self.assertRaises(TooMany):
                shred(schema, [more, *records])

    def test_lists_within_lists_of_a_thousand_entries(self):
        for sizes, fits in (
            (((100,) * 10,), True), (((100,) * 9 + (99, 0),), True), (((100,) * 9 + (100, 0),), False),
            (((100,) * 10, ()), False), (((100,) * 5, (100,) * 5), True), (((100,) * 5, (), (100,) * 5), False),
            (((100,) * 5, (), (100,) * 4 + (99,)), True),
        ):
            groups = [{"h": [{"x": [1] * size} for size in within]} for within in sizes]
            for records in ([{"g": groups}], [{"g": [group]} for group in groups]):
                with self.subTest(sizes=sizes):
                    if fits:
                        self.assertEqual(len(shred(LISTS, records)[0]), 1000)
                    else:
                        with self.assertRaises(TooMany):
                            shred(LISTS, records)

    def test_any_column_may_be_the_one_that_is_too_long(self):
        for place in range(3):
            names = ("a", "b", "c")
            schema = Schema(tuple([(name, "repeated", "int") for name in names]))
            for length, fits in ((10, True), (11, False)):
                records = [
                    {name: [1] * 100 if names[place] == name else [] for name in names} for _ in range(length)
                ]
                if fits:
                    self.assertEqual(len(shred(schema, records)[place]), 1000)
                else:
                    with self.assertRaises(TooMany):
                        shred(schema, records)

    def test_bad_records_come_ahead_of_too_many(self):
        schema = Schema((("a", "repeated", "int"), ("b", "required", "int")))
        records = [{"a": [1] * 100, "b": 1}] * 20
        with self.assertRaises(TooMany):
            shred(schema, records)
        with self.assertRaises(BadRecord):
            shred(schema, [*records, {"a": [], "b": None}])
        with self.assertRaises(BadRecord):
            shred(schema, [*records, *records, *records, *records, *records, *records])

    def test_columns_are_tuples(self):
        columns = shred(BOOK, BOOKS)
        self.assertIs(type(columns), tuple)
        self.assertTrue(all([type(column) is tuple for column in columns]))
        self.assertTrue(all([type(entry) is tuple for column in columns for entry in column]))

    def test_errors_are_kin_errors(self):
        for records in (None, [{"id": 1}], [{"id": 1, "tags": ["a"] * 100}] * 11):
            with self.assertRaises(KinError):
                shred(PAIR, records)

    def test_refusal_changes_nothing(self):
        records = [{"id": 1, "tags": ["a"] * 100} for _ in range(11)]
        before = copy.deepcopy(records)
        with self.assertRaises(TooMany):
            shred(PAIR, records)
        self.assertEqual(records, before)


class AssembleTest(unittest.TestCase):
    def test_missing_columns(self):
        for place in range(4):
            columns = (*BOOK_COLUMNS[:place], None, *BOOK_COLUMNS[place + 1:])
            with self.assertRaises(Inconsistent):
                assemble(BOOK, columns)
        for columns in ((None,) * 4, ((), (), None, ())):
            with self.assertRaises(Inconsistent):
                assemble(BOOK, columns)

    def test_problems(self):
        for columns in (
            (((0, 0, "a"),), ((0, 0, None),)), (((0, 0, 1),), ((0, 0, "a"),)), (((0, 0, 1),), ((1, 1, "a"),)),
            (((0, 0, 1),), ()), ((), ((0, 0, None),)), (((0, 0, 1),), ((0, 0, None), (0, 1, "a"))),
        ):
            with self.subTest(columns=columns), self.assertRaises(Inconsistent):
                assemble(PAIR, columns)

    def test_columns_that_do_not_fit_within_a_group(self):
        authors = (("name", "required", "text"), ("mails", "repeated", "text"))
        schema = Schema((("id", "required", "int"), ("authors", "repeated", authors)))
        names = ((0, 1, "A"), (1, 1, "B"))
        self.assertEqual(
            assemble(schema, (((0, 0, 1),), names, ((0, 1, None), (1, 2, "b"), (2, 2, "c")))),
            [{"id": 1, "authors": [{"name": "A", "mails": []}, {"name": "B", "mails": ["b", "c"]}]}],
        )
        for mails in (((0, 1, None),), ((0, 2, "a"), (2, 2, "b")), ((0, 1, None), (1, 1, None), (1, 1, None)), ((0, 0, None),)):
            with self.subTest(mails=mails), self.assertRaises(Inconsistent):
                assemble(schema, (((0, 0, 1),), names, mails))

    def test_bad_parts_come_first(self):
        wrong = ((0, 0, "a"),)
        for columns in (
            None, [], [(), ()], ((),), ((), (), ()), (None,), (wrong, ((0, 0),)), (wrong, [(0, 0, None)]), (None, "abc"),
            (None, ((0, 4, "a"),)), (None, ((0, 0, None),) * 1001), (((0, 0, 1),) * 1001, None), {}, "ab", 0,
        ):
            with self.subTest(columns=columns), self.assertRaises(BadParts):
                assemble(PAIR, columns)

    def test_columns_may_hold_more_records_than_a_list_of_records(self):
        columns = (tuple([(0, 0, number) for number in range(1000)]), ((0, 0, None),) * 1000)
        self.assertEqual(assemble(PAIR, columns), [{"id": number, "tags": []} for number in range(1000)])

    def test_columns_may_hold_more_occurrences_than_records_may(self):
        column = ((0, 1, "a"), *[(1, 1, "b")] * 999)
        self.assertEqual(assemble(PAIR, (((0, 0, 1),), column)), [{"id": 1, "tags": ["a", *["b"] * 999]}])

    def test_names_stand_in_the_order_of_the_schema(self):
        schema = Schema((("z", "required", "int"), ("b", "required", (("y", "optional", "int"), ("a", "required", "int")))))
        record = assemble(schema, (((0, 0, 1),), ((0, 0, None),), ((0, 0, 3),)))[0]
        self.assertEqual(list(record), ["z", "b"])
        self.assertEqual(list(record["b"]), ["y", "a"])

    def test_lists_and_dicts_are_new(self):
        columns = shred(BOOK, [BOOKS[2]] * 3 + [BOOKS[1]] * 2)
        first, second = assemble(BOOK, columns), assemble(BOOK, columns)
        objects = list(parts_of(first)) + list(parts_of(second)) + list(parts_of(BOOKS))
        self.assertEqual(len({id(one) for one in objects}), len(objects))
        self.assertEqual(first, second)

    def test_changing_what_was_returned_changes_no_other_answer(self):
        columns = shred(BOOK, BOOKS)
        found = assemble(BOOK, columns)
        found[0]["authors"].clear()
        found[1]["id"] = 5
        found.pop()
        self.assertEqual(assemble(BOOK, columns), BOOKS)


def parts_of(value):
    """All lists and dicts within a value."""
    if isinstance(value, (list, dict)):
        yield value
        for item in value.values() if isinstance(value, dict) else value:
            yield from parts_of(item)


if __name__ == "__main__":
    unittest.main()
