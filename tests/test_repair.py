"""Points 16 to 19: lost columns are made up, and of damaged ones those that belong together are kept."""

import copy
import itertools
import unittest

from columnkin.columns import skeleton, validate
from columnkin.errors import BadParts, Inconsistent, KinError
from columnkin.records import assemble, shred
from columnkin.repair import complete, salvage
from columnkin.schemas import Schema
from plain import KINDS, RULES

BOOK = Schema((
    ("id", "required", "int"),
    ("authors", "repeated", (("name", "required", "text"), ("mails", "repeated", "text"))),
    ("print", "optional", (("city", "optional", "text"), ("sold", "required", "flag"))),
))
BOOKS = [
    {"id": 1, "authors": [{"name": "A", "mails": ["a", "b"]}, {"name": "B", "mails": []}], "print": None},
    {"id": 2, "authors": [], "print": {"city": "X", "sold": True}},
    {"id": 3, "authors": [{"name": "C", "mails": []}], "print": {"city": None, "sold": True}},
]
COLUMNS = shred(BOOK, BOOKS)
DEFAULTS = {"int": 0, "text": "", "flag": False}
BAD_PARTS = (
    None, 0, "abcde", [], (), (None,) * 4, (None,) * 6, [None] * 5, {}, (None, None, None, None, 5),
    (None, None, None, None, []), (((0, 0),), None, None, None, None), (((0, 0, 1),) * 1001, None, None, None, None),
    (((0, 4, None),), None, None, None, None), (((True, 0, 1),), None, None, None, None),
    (((0, 0, 2147483648),), None, None, None, None), (((0, 0, None),), None, None, None, "a"),
)


def without(columns, leaves):
    """The columns with None in the places of some leaves."""
    return tuple([None if leaf in leaves else columns[leaf] for leaf in range(len(columns))])


class CompleteTest(unittest.TestCase):
    def assert_completed(self, schema, parts, columns):
        with self.subTest(schema=schema.fields, parts=parts):
            before = copy.deepcopy(parts)
            found = complete(schema, parts)
            self.assertEqual(repr(found), repr(columns))
            self.assertIs(type(found), tuple)
            self.assertIs(validate(schema, found), None)
            self.assertEqual(repr(parts), repr(before))

    def test_no_column_is_missing(self):
        self.assert_completed(BOOK, COLUMNS, COLUMNS)
        self.assert_completed(BOOK, ((),) * 5, ((),) * 5)

    def test_no_column_is_there(self):
        self.assert_completed(BOOK, (None,) * 5, ((),) * 5)

    def test_empty_columns(self):
        for leaf in range(5):
            self.assert_completed(BOOK, without(((),) * 5, [leaf]), ((),) * 5)
            self.assert_completed(BOOK, without(((),) * 5, [other for other in range(5) if other != leaf]), ((),) * 5)

    def test_one_column_is_missing(self):
        for leaf, column in enumerate((
            ((0, 0, 0), (0, 0, 0), (0, 0, 0)),
            ((0, 1, ""), (1, 1, ""), (0, 0, None), (0, 1, "")),
            ((0, 1, None), (1, 1, None), (0, 0, None), (0, 1, None)),
            ((0, 0, None), (0, 1, None), (0, 1, None)),
            ((0, 0, None), (0, 1, False), (0, 1, False)),
        )):
            parts = without(COLUMNS, [leaf])
            self.assert_completed(BOOK, parts, (*COLUMNS[:leaf], column, *COLUMNS[leaf + 1:]))

    def test_one_column_is_there(self):
        none = ((0, 0, None),) * 3
        ids = ((0, 0, 0),) * 3
        names, mails, cities, sold = COLUMNS[1:]
        for leaf, columns in enumerate((
            (COLUMNS[0], none, none, none, none),
            (ids, names, ((0, 1, None), (1, 1, None), (0, 0, None), (0, 1, None)), none, none),
            (ids, ((0, 1, ""), (1, 1, ""), (0, 0, None), (0, 1, "")), mails, none, none),
            (ids, none, none, cities, ((0, 0, None), (0, 1, False), (0, 1, False))),
            (ids, none, none, ((0, 0, None), (0, 1, None), (0, 1, None)), sold),
        )):
            self.assert_completed(BOOK, without(COLUMNS, [other for other in range(5) if other != leaf]), columns)

    def test_columns_that_are_there_stay(self):
        for count in range(6):
            for lost in itertools.combinations(range(5), count):
                found = complete(BOOK, without(COLUMNS, lost))
                for leaf in range(5):
                    if leaf not in lost:
                        self.assertEqual(found[leaf], COLUMNS[leaf])

    def test_values_by_kind_and_rule(self):
        for rule, kind in itertools.product(RULES, KINDS):
            schema = Schema((("a", rule, kind), ("b", "required", "int")))
            value = DEFAULTS[kind] if rule == "required" else None
            self.assert_completed(schema, (None, ((0, 0, 5), (0, 0, 6))), (((0, 0, value),) * 2, ((0, 0, 5), (0, 0, 6))))

    def test_required_groups(self):
        """A required leaf has a value although its own group has no column: the groups on its way add no levels."""
        schema = Schema((("a", "repeated", "int"), ("g", "required", (("h", "required", (("x", "required", "text"),)),))))
        column = ((0, 1, 5), (1, 1, 6), (0, 0, None))
        self.assert_completed(schema, (column, None), (column, ((0, 0, ""), (0, 0, ""))))

    def test_outline_of_the_group_around(self):
        inner = (("x", "required", "int"), ("y", "optional", "int"))
        for rule in ("optional", "repeated"):
            schema = Schema((("g", "repeated", (("a", "required", "int"), ("h", rule, inner))), ("b", "required", "int")))
            column = ((0, 1, 5), (1, 1, 6), (0, 0, None))
            made_up = ((0, 1, None), (1, 1, None), (0, 0, None))
            self.assert_completed(
                schema, (column, None, None, None), (column, made_up, made_up, ((0, 0, 0), (0, 0, 0))),
            )
            none = ((0, 0, None),) * 2
            ids = ((0, 0, 1), (0, 0, 2))
            self.assert_completed(schema, (None, None, None, ids), (none, none, none, ids))

    def test_outlines_three_deep(self):
        leaves = (("x", "required", "int"), ("y", "required", "text"))
        schema = Schema((("g", "repeated", (("h", "repeated", leaves), ("z", "required", "flag"))), ("w", "required", "int")))
        column = ((0, 2, 7), (2, 2, 8), (1, 1, None), (0, 0, None), (0, 2, 9))
        self.assert_completed(schema, (column, None, None, None), (
            column,
            ((0, 2, ""), (2, 2, ""), (1, 1, None), (0, 0, None), (0, 2, "")),
            ((0, 1, False), (1, 1, False), (0, 0, None), (0, 1, False)),
            ((0, 0, 0), (0, 0, 0), (0, 0, 0)),
        ))

    def test_the_own_group_comes_ahead_of_the_group_around(self):
        """The first leaf of all lies outside of the group, and tells less of it than one that lies in it."""
        schema = Schema((("a", "required", "int"), ("g", "repeated", (("x", "required", "int"), ("y", "required", "int")))))
        first, last = ((0, 0, 1),), ((0, 1, 1), (1, 1, 2))
        self.assert_completed(schema, (first, None, last), (first, ((0, 1, 0), (1, 1, 0)), last))

    def test_records_of_completed_columns(self):
        self.assertEqual(assemble(BOOK, complete(BOOK, without(COLUMNS, [1, 3]))), [
            {"id": 1, "authors": [{"name": "", "mails": ["a", "b"]}, {"name": "", "mails": []}], "print": None},
            {"id": 2, "authors": [], "print": {"city": None, "sold": True}},
            {"id": 3, "authors": [{"name": "", "mails": []}], "print": {"city": None, "sold": True}},
        ])

    def test_a_thousand_entries(self):
        column = ((0, 0, 1),) * 1000
        none = ((0, 0, None),) * 1000
        self.assert_completed(BOOK, (column, None, None, None, None), (column, none, none, none, none))

    def test_problems(self):
        for parts in (
            (((0, 0, None),), None, None, None, None), (None, None, None, None, ((1, 1, True),)),
            (((0, 0, 1),), ((0, 0, None), (0, 0, None)), None, None, None), (*COLUMNS[:4], ()),
            (None, ((0, 1, "a"),), ((0, 0, None),), None, None), (None, ((0, 1, "a"),), None, (), None),
            (None, None, None, ((0, 0, None),), ((0, 1, True),)),
        ):
            with self.subTest(parts=parts), self.assertRaises(Inconsistent):
                complete(BOOK, parts)

    def test_bad_parts_come_first(self):
        for parts in BAD_PARTS:
            with self.subTest(parts=parts), self.assertRaises(BadParts):
                complete(BOOK, parts)

    def test_refusals_are_kin_errors(self):
        for parts in (None, (((0, 0, None),), None, None, None, None)):
            with self.assertRaises(KinError):
                complete(BOOK, parts)


class SalvageTest(unittest.TestCase):
    def assert_salvaged(self, schema, parts, leaves):
        with self.subTest(schema=schema.fields, parts=parts):
            before = copy.deepcopy(parts)
            found = salvage(schema, parts)
            self.assertEqual(found, leaves)
            self.assertIs(type(found), tuple)
            self.assertEqual(repr(parts), repr(before))

    def test_consistent_columns_are_all_kept(self):
        for count in range(6):
            for lost in itertools.combinations(range(5), count):
                kept = tuple([leaf for leaf in range(5) if leaf not in lost])
                self.assert_salvaged(BOOK, without(COLUMNS, lost), kept)

    def test_columns_that_are_not_sound_are_left_out(self):
        for leaf in range(5):
            for wrong in (((0, 3, None),), ((0, 3, 5),), ((1, 1, None),), ((0, 0, None), (3, 3, None))):
                parts = (*COLUMNS[:leaf], wrong, *COLUMNS[leaf + 1:])
                self.assert_salvaged(BOOK, parts, tuple([other for other in range(5) if other != leaf]))

    def test_empty_columns_are_columns(self):
        self.assert_salvaged(BOOK, ((),) * 5, (0, 1, 2, 3, 4))
        self.assert_salvaged(BOOK, ((), None, None, None, ()), (0, 4))
        self.assert_salvaged(BOOK, (None,) * 5, ())

    def test_greatest_class_is_taken(self):
        schema = Schema(tuple([(name, "required", "int") for name in "abcdef"]))
        for lengths, leaves in (
            ((1, 1, 1, 1, 1, 1), (0, 1, 2, 3, 4, 5)), ((1, 2, 2, 2, 1, 3), (1, 2, 3)), ((1, 2, 3, 3, 4, 5), (2, 3)),
            ((5, 4, 3, 2, 1, 0), (0,)), ((1, 2, 2, 1, 3, 3), (0, 3)), ((3, 1, 2, 2, 1, 0), (1, 4)),
            ((0, 2, 1, 2, 1, 2), (1, 3, 5)), ((2, 1, 1, 2, 1, 2), (0, 3, 5)), ((9, 1, 2, 1, 2, 9), (0, 5)),
            ((None, 1, 2, 1, 2, None), (1, 3)), ((None, 2, 1, None, None, 0), (1,)),
        ):
            parts = tuple([None if length is None else ((0, 0, 7),) * length for length in lengths])
            self.assert_salvaged(schema, parts, leaves)

    def test_what_is_taken_counts_not_how_many_leaves_a_class_has(self):
        """The class of the first leaves has four of them, but two do not fit each other within their group."""
        schema = Schema((
            ("g", "repeated", (("x", "required", "int"), ("y", "required", "int"), ("z", "required", "int"))),
            ("a", "required", "int"), ("b", "required", "int"), ("c", "required", "int"),
        ))
        groups = (((0, 1, 1),), ((0, 1, 1), (1, 1, 2)), ((0, 0, None),))
        self.assert_salvaged(schema, (*groups, ((0, 0, 1),), ((0, 0, 1),) * 2, ((0, 0, 1),) * 2), (0, 3))
        self.assert_salvaged(schema, (*groups, ((0, 0, 1),) * 2, ((0, 0, 1),) * 2, ((0, 0, 1),) * 2), (3, 4, 5))
        self.assert_salvaged(schema, (*groups, ((0, 0, 1),), None, ((0, 0, 1),)), (0, 3, 5))

    def test_classes_within_groups(self):
        schema = Schema((
            ("a", "required", "int"),
            ("g", "repeated", (("x", "required", "int"), ("y", "required", "int"), ("z", "required", "int"))),
            ("h", "optional", (("v", "required", "int"), ("w", "required", "int"))),
        ))
        one, two = ((0, 1, 1),), ((0, 1, 1), (1, 1, 2))
        absent = ((0, 0, None),)
        ids = ((0, 0, 1),)
        self.assert_salvaged(schema, (ids, one, two, two, one, one), (0, 2, 3, 4, 5))
        self.assert_salvaged(schema, (ids, one, two, one, one, absent), (0, 1, 3, 4))
        self.assert_salvaged(schema, (ids, one, two, absent, absent, one), (0, 1, 4))
        self.assert_salvaged(schema, (None, one, two, absent, None, one), (1, 5))
        self.assert_salvaged(schema, (ids * 2, one, two, absent, absent, one), (1, 4))
        self.assert_salvaged(schema, (ids * 2, one, one, absent, absent * 2, ((0, 1, 1),) * 2), (0, 4))

    def test_equally_great_sets_of_two_classes(self):
        """The class with the least leaf is taken, whether this leaf is among those that are taken or not."""
        schema = Schema((
            ("g", "repeated", (("x", "required", "int"), ("y", "required", "int"), ("z", "required", "int"))),
            ("a", "required", "int"), ("b", "required", "int"), ("c", "required", "int"),
        ))
        one, two = ((0, 1, 1),), ((0, 1, 1), (1, 1, 2))
        twice = ((0, 0, 1),) * 2
        self.assert_salvaged(schema, (one, two, two, twice, twice, None), (1, 2))
        self.assert_salvaged(schema, (one * 2, two, None, ((0, 0, 1),), twice, None), (0, 4))
        self.assert_salvaged(schema, (None, two, one * 2, twice, ((0, 0, 1),), None), (1, 4))

    def test_three_deep(self):
        leaves = (("x", "required", "int"), ("y", "required", "int"), ("z", "required", "int"))
        schema = Schema((("g", "repeated", (("h", "repeated", leaves), ("a", "required", "int"))), ("b", "required", "int")))
        three, two, one = ((0, 2, 1), (2, 2, 1), (2, 2, 1)), ((0, 2, 1), (2, 2, 1)), ((0, 2, 1),)
        self.assert_salvaged(schema, (three, two, three, ((0, 1, 1),), ((0, 0, 1),)), (0, 2, 3, 4))
        self.assert_salvaged(schema, (three, two, one, ((0, 1, 1),), ((0, 0, 1),)), (0, 3, 4))
        self.assert_salvaged(schema, (three, two, one, ((0, 1, 1), (1, 1, 1)), ((0, 0, 1),)), (0, 4))
        self.assert_salvaged(schema, (three, two, two, ((0, 1, 1), (1, 1, 1)), ((0, 0, 1),)), (1, 2, 4))
        self.assert_salvaged(schema, (three, two, two, ((0, 1, 1), (1, 1, 1)), ((0, 0, 1),) * 2), (1, 2))

    def test_all_small_parts(self):
        """Over all choices of few columns: consistent, and no larger set is; the first of the greatest classes."""
        schema = Schema((
            ("g", "repeated", (("x", "required", "int"), ("y", "optional", "int"))), ("a", "optional", "int"),
            ("h", "optional", (("v", "required", "int"),)),
        ))
        lists = (None, (), ((0, 0, None),), ((0, 1, 1),), ((0, 1, 1), (1, 1, 1)), ((0, 0, None),) * 2, ((1, 1, 1),))
        others = (None, (), ((0, 0, None),), ((0, 1, 1),), ((0, 1, 1), (0, 0, None)), ((0, 2, None),))
        optional = tuple([
            column and tuple([(entry[0], entry[1], None if entry[1] == 1 else entry[2]) for entry in column])
            for column in lists
        ])
        for parts in itertools.product(lists, optional, others, others):
            found = salvage(schema, parts)
            self.assertEqual(found, chosen(schema, parts))
            self.assertIn(found, greatest_sets(schema, parts))

    def test_bad_parts(self):
        for parts in BAD_PARTS:
            with self.subTest(parts=parts), self.assertRaises(BadParts):
                salvage(BOOK, parts)

    def test_refusal_is_a_kin_error(self):
        with self.assertRaises(KinError):
            salvage(BOOK, None)


def greatest_sets(schema, parts):
    """The greatest sets of leaves whose columns are there and are consistent, by trying all sets."""
    for count in range(len(schema), -1, -1):
        found = [
            leaves for leaves in itertools.combinations(range(len(schema)), count)
            if all([parts[leaf] is not None for leaf in leaves]) and is_consistent(schema, parts, leaves)
        ]
        if found:
            return found


def is_consistent(schema, parts, leaves):
    return validate(schema, without(parts, [leaf for leaf in range(len(schema)) if leaf not in leaves])) is None


def chosen(schema, parts):
    """What point 18 chooses, written out for a schema whose only group of several leaves has the leaves 0 and 1."""
    sound = [leaf for leaf in range(len(schema)) if parts[leaf] is not None and is_consistent(schema, parts, [leaf])]
    best = ()
    for least in sound:
        members = [leaf for leaf in sound if skeleton(parts[leaf], 0, 0) == skeleton(parts[least], 0, 0)]
        in_group = [leaf for leaf in members if leaf < 2]
        if len(in_group) == 2 and skeleton(parts[0], 1, 1) != skeleton(parts[1], 1, 1):
            in_group = [0]
        taken = (*in_group, *[leaf for leaf in members if leaf >= 2])
        if len(taken) > len(best):
            best = taken
    return best


if __name__ == "__main__":
    unittest.main()
