"""Points 1 to 3 over the whole program: nothing that is passed or kept is changed, and what is returned is new."""

import copy
import unittest

from columnkin.asks import counts, holding, picked, totals
from columnkin.columns import check_parts, first_fault, is_admissible, is_value, skeleton, validate
from columnkin.errors import KinError
from columnkin.packing import pack, recover, unpack
from columnkin.papers import judge, paper_for
from columnkin.records import assemble, check_records, shred
from columnkin.repair import complete, salvage
from columnkin.schemas import Schema, common_group
from columnkin.tables import Table

FIELDS = (
    ("id", "required", "int"),
    ("authors", "repeated", (("name", "required", "text"), ("mails", "repeated", "text"))),
    ("sold", "optional", "flag"),
)
RECORDS = [
    {"id": 1, "authors": [{"name": "A", "mails": ["a", "b"]}, {"name": "B", "mails": []}], "sold": None},
    {"id": 0, "authors": [], "sold": True},
]
BAD_RECORDS = [RECORDS[0], {"id": 0, "authors": [{"name": "A"}], "sold": [1]}]
COLUMNS = shred(Schema(FIELDS), RECORDS)
LOST = (None, *COLUMNS[1:])
UNFIT = (COLUMNS[0][:1], *COLUMNS[1:])
UNSOUND = (COLUMNS[0], ((1, 1, 5),), *COLUMNS[2:])
OCTETS = pack(Schema(FIELDS), COLUMNS)

# Functions with arguments beside the schema, some of which make them raise errors.
CALLS = (
    (common_group, 1, 2), (is_admissible, 0, COLUMNS[0], 1), (first_fault, 1, COLUMNS[1]), (check_records, RECORDS),
    (check_records, BAD_RECORDS), (shred, RECORDS), (shred, BAD_RECORDS), (shred, RECORDS * 51),
    *[(call, parts) for call in (check_parts, validate, assemble, complete, salvage, pack, paper_for)
      for parts in (COLUMNS, LOST, UNFIT, UNSOUND, [[[0, 0, 1]]], ([], {}, [[]], None))],
    *[(unpack, octets) for octets in (OCTETS, OCTETS[:-1], [1, [2]], (0, [2], 0, 0))],
    *[(recover, octets) for octets in (OCTETS, OCTETS[:-1], [1, [2]], (0, [2], 0, 0))],
    *[(judge, parts, paper) for parts in (COLUMNS, LOST, UNFIT, UNSOUND) for paper in (
        ("records", RECORDS), ("records", BAD_RECORDS), ("entry", 1, 0), ("entry", [1], {}), ("pair", 0, 1, 1),
        ["pair", [0], {1: 2}], {}, [[]],
    )],
    *[(picked, parts, paths) for parts in (COLUMNS, LOST) for paths in (("sold", "id"), (), ("x",), ["id"])],
    *[(call, parts, path) for call in (counts, totals) for parts in (COLUMNS, LOST) for path in ("id", "authors", [1])],
    *[(holding, parts, "id", value) for parts in (COLUMNS, LOST) for value in (1, [1], {})],
)
METHODS = (
    ("append", RECORDS), ("append", BAD_RECORDS), ("append", RECORDS * 50), ("foresee", RECORDS), ("foresee", BAD_RECORDS),
    ("truncate", 1), ("truncate", [1]), ("record", 0), ("record", [0]), ("records",), ("undo",), ("adopt", Schema(FIELDS)),
    ("adopt", Schema((*FIELDS, ("more", "repeated", "int")))), ("adopt", Schema(FIELDS[:1])), ("adopt", [FIELDS]),
)


def told(value):
    """A value, written out with the attributes of schemas in it."""
    return repr([vars(value) if isinstance(value, Schema) else value])


def answer(call, *arguments):
    """What a call returns, or the class of its error."""
    try:
        return call(*arguments)
    except KinError as error:
        return type(error)


def spoil(value):
    """Change all lists and dicts in an answer."""
    if isinstance(value, (list, tuple)):
        for item in value:
            spoil(item)
    if isinstance(value, dict):
        spoil(list(value.values()))
        value.clear()
    if isinstance(value, list):
        value.append("spoiled")


class WholeTest(unittest.TestCase):
    def test_functions_change_nothing(self):
        for call, *arguments in CALLS:
            with self.subTest(call=call.__name__, arguments=arguments):
                schema = Schema(FIELDS)
                given = copy.deepcopy(arguments)
                answer(call, schema, *given)
                self.assertEqual(repr(given), repr(arguments))
                self.assertEqual(told(schema), told(Schema(FIELDS)))

    def test_answers_are_new(self):
        for call, *arguments in CALLS:
            with self.subTest(call=call.__name__, arguments=arguments):
                schema = Schema(FIELDS)
                given = copy.deepcopy(arguments)
                found = answer(call, schema, *given)
                before = repr(found) if not isinstance(found, tuple) else [told(item) for item in found]
                spoil(found)
                self.assertEqual(repr(given), repr(arguments))
                found = answer(call, schema, *given)
                self.assertEqual(repr(found) if not isinstance(found, tuple) else [told(item) for item in found], before)

    def test_methods_change_only_their_table(self):
        for name, *arguments in METHODS:
            with self.subTest(name=name, arguments=arguments):
                schema, other = Schema(FIELDS), Table(Schema(FIELDS))
                table = Table(schema)
                table.append(RECORDS)
                given = copy.deepcopy(arguments)
                found = answer(getattr(table, name), *given)
                self.assertEqual([told(item) for item in given], [told(item) for item in arguments])
                self.assertEqual(told(schema), told(Schema(FIELDS)))
                self.assertEqual((other.columns, other.records(), other.undo()), (((),) * 4, [], False))
                records = copy.deepcopy(table.records())
                spoil(found)
                spoil(given)
                self.assertEqual(repr(table.records()), repr(records))

    def test_what_only_tells_leaves_the_table_as_it_is(self):
        table = Table(Schema(FIELDS))
        table.append(RECORDS)
        state = (table.schema, table.columns)
        for _ in range(3):
            len(table), list(table), table.records(), table.record(1), table.tried(), table.foresee(RECORDS)
            answer(table.record, 2)
        self.assertEqual((table.schema, table.columns), state)
        self.assertIs(table.undo(), True)
        self.assertIs(table.undo(), False)

    def test_values_and_skeletons(self):
        column = ((0, 1, "A"), (1, 1, "B"), (0, 0, None))
        self.assertEqual(skeleton(column, 0, 1), ((0, 1), (0, 0)))
        for value in ([], {}, [1], {"a": 1}):
            given = copy.deepcopy(value)
            self.assertIs(is_value(given, "int"), False)
            self.assertEqual(given, value)


if __name__ == "__main__":
    unittest.main()
