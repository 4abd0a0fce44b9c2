"""Points 3 and 21: what is asked of columns."""

import copy
import unittest

from columnkin.asks import counts, holding, picked, totals
from columnkin.columns import validate
from columnkin.errors import BadParts, BadSchema, Inconsistent, NoSuchPath, WrongKind
from columnkin.records import assemble, shred
from columnkin.schemas import Schema

SHELF = Schema((
    ("id", "required", "int"),
    ("books", "repeated", (
        ("title", "required", "text"),
        ("prices", "repeated", "int"),
        ("press", "optional", (("city", "optional", "text"), ("years", "repeated", "int"))),
    )),
    ("room", "required", (("floor", "required", "int"), ("light", "optional", "flag"))),
))


def book(title, prices, press):
    return {"title": title, "prices": prices, "press": press}


SHELVES = [
    {"id": 5, "books": [
        book("A", [1, -2, 10], {"city": "X", "years": [1900, 1901]}),
        book("B", [], None),
        book("A", [7], {"city": None, "years": []}),
    ], "room": {"floor": 0, "light": None}},
    {"id": -5, "books": [], "room": {"floor": -1, "light": False}},
    {"id": 0, "books": [book("", [0], {"city": "Y", "years": [7]})], "room": {"floor": 0, "light": True}},
    {"id": 5, "books": [book("B", [], None), book("C", [], None)], "room": {"floor": 2, "light": True}},
]
COLUMNS = shred(SHELF, SHELVES)
NO_RECORDS = ((),) * 7
PATHS = tuple([leaf[0] for leaf in SHELF.leaves])
GROUPS = ("books", "books.press", "room")
NO_FIELDS = (
    "", "x", "ID", "id ", " id", ".id", "id.", "title", "book", "bookss", "books.", ".books", "books.x", "books.id",
    "books.press.", "press", "press.city", "books.city", "books.press.city.x", "books..press", "room.books", "id.id",
    "books/title", None, 0, 1, True, False, b"id", (), ("id",), ["id"], {}, 0.0, object(), SHELF,
    type("Same", (), {"__eq__": lambda self, other: True, "__hash__": lambda self: 0})(),
)


def paths_with(*places):
    return tuple([PATHS[place] for place in places])


class PickedTest(unittest.TestCase):
    def assert_picked(self, paths, fields, places):
        with self.subTest(paths=paths):
            found = picked(SHELF, COLUMNS, paths)
            self.assertIs(type(found), tuple)
            smaller, columns = found
            self.assertIs(type(smaller), Schema)
            self.assertEqual(smaller.fields, fields)
            self.assertEqual([leaf[0] for leaf in smaller.leaves], [PATHS[place] for place in places])
            self.assertIs(type(columns), tuple)
            self.assertEqual(repr(columns), repr(tuple([COLUMNS[place] for place in places])))
            self.assertIs(validate(smaller, columns), None)

    def test_all_leaves(self):
        self.assert_picked(PATHS, SHELF.fields, range(7))
        self.assertEqual(picked(SHELF, COLUMNS, PATHS), (SHELF, COLUMNS))

    def test_single_leaves(self):
        prices, years = ("prices", "repeated", "int"), ("years", "repeated", "int")
        self.assert_picked(("id",), (("id", "required", "int"),), [0])
        self.assert_picked(("books.prices",), (("books", "repeated", (prices,)),), [2])
        press = ("press", "optional", (years,))
        self.assert_picked(("books.press.years",), (("books", "repeated", (press,)),), [4])
        room = ("room", "required", (("light", "optional", "flag"),))
        self.assert_picked(("room.light",), (room,), [6])

    def test_several_leaves_in_any_order(self):
        title, press = ("title", "required", "text"), ("press", "optional", (("city", "optional", "text"),))
        fields = (
            ("books", "repeated", (title, press)), ("room", "required", (("floor", "required", "int"),)),
        )
        for places in ((1, 3, 5), (5, 3, 1), (3, 5, 1), (1, 5, 3)):
            self.assert_picked(paths_with(*places), fields, [1, 3, 5])

    def test_columns_of_the_records_without_all_other_fields(self):
        smaller, columns = picked(SHELF, COLUMNS, ("room.light", "books.prices"))
        self.assertEqual(assemble(smaller, columns), [
            {"books": [{"prices": [1, -2, 10]}, {"prices": []}, {"prices": [7]}], "room": {"light": None}},
            {"books": [], "room": {"light": False}},
            {"books": [{"prices": [0]}], "room": {"light": True}},
            {"books": [{"prices": []}, {"prices": []}], "room": {"light": True}},
        ])

    def test_no_records(self):
        smaller, columns = picked(SHELF, NO_RECORDS, ("room.floor", "id"))
        self.assertEqual([leaf[0] for leaf in smaller.leaves], ["id", "room.floor"])
        self.assertEqual(columns, ((), ()))

    def test_paths_of_no_leaf(self):
        for path in (*NO_FIELDS, *GROUPS):
            for paths in ((path,), (path, "id"), ("id", path), ("id", path, "room.light"), (path, path)):
                with self.subTest(paths=paths), self.assertRaises(NoSuchPath):
                    picked(SHELF, COLUMNS, paths)

    def test_no_paths(self):
        with self.assertRaises(BadSchema):
            picked(SHELF, COLUMNS, ())
        with self.assertRaises(BadSchema):
            picked(SHELF, NO_RECORDS, ())

    def test_the_schema_stays_as_it_is(self):
        fields, leaves = copy.deepcopy((SHELF.fields, SHELF.leaves))
        smaller, columns = picked(SHELF, COLUMNS, ("id",))
        self.assertIsNot(smaller, SHELF)
        self.assertEqual((SHELF.fields, SHELF.leaves, len(SHELF)), (fields, leaves, 7))


class CountsTest(unittest.TestCase):
    def test_leaves(self):
        for path, found in (
            ("id", [1, 1, 1, 1]),
            ("books.title", [3, 0, 1, 2]),
            ("books.prices", [4, 0, 1, 0]),
            ("books.press.city", [1, 0, 1, 0]),
            ("books.press.years", [2, 0, 1, 0]),
            ("room.floor", [1, 1, 1, 1]),
            ("room.light", [0, 1, 1, 1]),
        ):
            with self.subTest(path=path):
                self.assertEqual(repr(counts(SHELF, COLUMNS, path)), repr(found))

    def test_groups(self):
        for path, found in (("books", [3, 0, 1, 2]), ("books.press", [2, 0, 1, 0]), ("room", [1, 1, 1, 1])):
            with self.subTest(path=path):
                self.assertEqual(repr(counts(SHELF, COLUMNS, path)), repr(found))

    def test_groups_whose_first_leaf_has_further_entries(self):
        """An occurrence counts once, whatever its first leaf holds, and also if that holds nothing."""
        rows = ("rows", "repeated", (("cells", "repeated", "int"), ("note", "optional", "text")))
        schema = Schema((("sheet", "optional", (rows,)),))
        records = [
            {"sheet": {"rows": [{"cells": [1, 2, 3], "note": None}, {"cells": [], "note": "a"}]}},
            {"sheet": {"rows": []}},
            {"sheet": None},
            {"sheet": {"rows": [{"cells": [], "note": None}]}},
        ]
        columns = shred(schema, records)
        for path, found in (
            ("sheet", [1, 1, 0, 1]), ("sheet.rows", [2, 0, 0, 1]),
            ("sheet.rows.cells", [3, 0, 0, 0]), ("sheet.rows.note", [1, 0, 0, 0]),
        ):
            with self.subTest(path=path):
                self.assertEqual(counts(schema, columns, path), found)

    def test_no_records(self):
        for path in (*PATHS, *GROUPS):
            self.assertEqual(counts(SHELF, NO_RECORDS, path), [])

    def test_paths_of_no_field(self):
        for path in NO_FIELDS:
            with self.subTest(path=path), self.assertRaises(NoSuchPath):
                counts(SHELF, COLUMNS, path)

    def test_lists_are_new(self):
        found = counts(SHELF, COLUMNS, "id")
        found.append(5)
        self.assertEqual(counts(SHELF, COLUMNS, "id"), [1, 1, 1, 1])


class TotalsTest(unittest.TestCase):
    def test_sums(self):
        for path, found in (
            ("id", [5, -5, 0, 5]), ("books.prices", [16, 0, 0, 0]), ("books.press.years", [3801, 0, 7, 0]),
            ("room.floor", [0, -1, 0, 2]),
        ):
            with self.subTest(path=path):
                self.assertEqual(repr(totals(SHELF, COLUMNS, path)), repr(found))

    def test_sums_beyond_the_greatest_value(self):
        schema = Schema((("n", "repeated", "int"),))
        for value in (2147483647, -2147483648):
            columns = shred(schema, [{"n": [value] * 100}, {"n": [value]}, {"n": []}])
            self.assertEqual(totals(schema, columns, "n"), [100 * value, value, 0])

    def test_no_records(self):
        self.assertEqual(totals(SHELF, NO_RECORDS, "books.prices"), [])

    def test_paths_of_no_leaf(self):
        for path in (*NO_FIELDS, *GROUPS):
            with self.subTest(path=path), self.assertRaises(NoSuchPath):
                totals(SHELF, COLUMNS, path)

    def test_other_kinds(self):
        for path in ("books.title", "books.press.city", "room.light"):
            for columns in (COLUMNS, NO_RECORDS):
                with self.subTest(path=path), self.assertRaises(WrongKind):
                    totals(SHELF, columns, path)

    def test_lists_are_new(self):
        totals(SHELF, COLUMNS, "id").append(5)
        self.assertEqual(totals(SHELF, COLUMNS, "id"), [5, -5, 0, 5])


class HoldingTest(unittest.TestCase):
    def test_records(self):
        for path, value, found in (
            ("id", 5, [0, 3]), ("id", 0, [2]), ("id", 1, []), ("id", 2147483647, []),
            ("books.title", "A", [0]), ("books.title", "B", [0, 3]), ("books.title", "", [2]), ("books.title", "a", []),
            ("books.prices", -2, [0]), ("books.prices", 0, [2]), ("books.prices", 7, [0]),
            ("books.press.city", "Y", [2]), ("books.press.years", 1901, [0]),
            ("room.floor", 0, [0, 2]), ("room.light", True, [2, 3]), ("room.light", False, [1]),
        ):
            with self.subTest(path=path, value=value):
                self.assertEqual(repr(holding(SHELF, COLUMNS, path, value)), repr(found))

    def test_no_records(self):
        self.assertEqual(holding(SHELF, NO_RECORDS, "id", 5), [])

    def test_paths_of_no_leaf(self):
        for path in (*NO_FIELDS, *GROUPS):
            for value in (5, "A", True, None, object()):
                with self.subTest(path=path, value=value), self.assertRaises(NoSuchPath):
                    holding(SHELF, COLUMNS, path, value)

    def test_values_of_another_kind(self):
        no_values = (None, 1.0, 0.0, b"A", (), ("A",), [], {}, object(), 2147483648, -2147483649, "%", "a" * 101)
        for path, values in (
            ("id", (True, False, "", "5")), ("books.title", (0, 1, True, False)), ("room.light", (0, 1, "", "True")),
        ):
            for value in (*values, *no_values):
                for columns in (COLUMNS, NO_RECORDS):
                    with self.subTest(path=path, value=value), self.assertRaises(WrongKind):
                        holding(SHELF, columns, path, value)

    def test_lists_are_new(self):
        holding(SHELF, COLUMNS, "id", 5).append(5)
        self.assertEqual(holding(SHELF, COLUMNS, "id", 5), [0, 3])


def ask_all(columns, right):
    """Calls of all asks: with what they answer, or with paths, values and kinds that are wrong."""
    path = "id" if right else "x"
    return (
        lambda: picked(SHELF, columns, (path,)), lambda: counts(SHELF, columns, path),
        lambda: totals(SHELF, columns, path), lambda: holding(SHELF, columns, path, 5),
        lambda: picked(SHELF, columns, ("id",) if right else ()),
        lambda: totals(SHELF, columns, "id" if right else "room.light"),
        lambda: holding(SHELF, columns, "id", 5 if right else None),
    )


class ColumnsTest(unittest.TestCase):
    def assert_raised(self, columns, error):
        for right in (True, False):
            for number, ask in enumerate(ask_all(columns, right)):
                with self.subTest(columns=columns, right=right, number=number), self.assertRaises(error):
                    ask()

    def test_missing_columns(self):
        for place in range(7):
            self.assert_raised((*COLUMNS[:place], None, *COLUMNS[place + 1:]), Inconsistent)
        self.assert_raised((None,) * 7, Inconsistent)

    def test_columns_with_a_problem(self):
        for place in range(7):
            for column in ((), COLUMNS[place][:-1], ((1, 0, None),), (*COLUMNS[place], (0, 3, None))):
                self.assert_raised((*COLUMNS[:place], column, *COLUMNS[place + 1:]), Inconsistent)
        self.assert_raised((((0, 0, True), *COLUMNS[0][1:]), *COLUMNS[1:]), Inconsistent)

    def test_no_parts(self):
        for columns in ((), COLUMNS[:6], (*COLUMNS, ()), list(COLUMNS), None, (*COLUMNS[:6], [])):
            self.assert_raised(columns, BadParts)

    def test_arguments_stay_as_they_are(self):
        columns, paths = copy.deepcopy(COLUMNS), ("room.light", "id")
        picked(SHELF, columns, paths)
        for ask in ask_all(columns, True):
            ask()
        self.assertEqual((repr(columns), paths), (repr(COLUMNS), ("room.light", "id")))


if __name__ == "__main__":
    unittest.main()
