"""Points 2, 3 and 6: what records of a schema are."""

import copy
import unittest

from columnkin.errors import BadRecord, KinError
from columnkin.records import check_records, shred
from columnkin.schemas import Schema
from plain import SIGNS, draws, drawn_records, drawn_schema

BOOK = Schema((
    ("id", "required", "int"),
    ("authors", "repeated", (("name", "required", "text"), ("mails", "repeated", "text"))),
    ("print", "optional", (("city", "optional", "text"), ("sold", "required", "flag"))),
))
GOOD = {
    "id": 7,
    "authors": [{"name": "Ann", "mails": ["a@b", ""]}, {"name": "", "mails": []}],
    "print": {"city": None, "sold": True},
}
NO_LISTS = (None, 0, 1, True, "", "ab", b"", (), ({},), {}, {"id": 1}, set(), range(0), object(), 1.5, len)
NO_DICTS = (0, 1, True, "", "id", b"", (), (1,), [], [1], [{}], [("id", 1)], {"id"}, set(), object(), 1.5, len)
VALUES = {"int": (0, 1, -1, 2147483647, -2147483648), "text": ("", "a", "1", SIGNS, "z" * 100), "flag": (True, False)}
NO_VALUES = (
    2147483648, -2147483649, 10 ** 30, "a" * 101, "\n", "#", "a%", "\u00e4", 0.0, 1.0, 1j, b"", b"a", (), ("a",), [], [1],
    {}, {"a": 1}, set(), object(), int,
)


class Alike:
    """A key that equals a text, but is none."""

    def __init__(self, text):
        self.text = text

    def __eq__(self, other):
        return self.text == other

    def __hash__(self):
        return hash(self.text)


def changed(way, value):
    """The good record with another value at the end of a way of names and indexes."""
    record = copy.deepcopy(GOOD)
    place = record
    for step in way[:-1]:
        place = place[step]
    place[way[-1]] = value
    return record


class RecordsTest(unittest.TestCase):
    """Records that are refused are refused by shred as well."""

    def assert_taken(self, schema, records):
        self.assertIs(check_records(schema, records), None)
        shred(schema, records)

    def assert_refused(self, schema, records):
        for function in (check_records, shred):
            with self.assertRaises(BadRecord):
                function(schema, records)

    def assert_content(self, rule, kind, content, taken):
        """A field holds the content, or cannot hold it: alone, beside others, and within groups."""
        check = self.assert_taken if taken else self.assert_refused
        with self.subTest(rule=rule, kind=kind, content=content):
            field = ("a", rule, kind)
            check(Schema((field,)), [{"a": content}])
            good = [] if rule == "repeated" else None
            if rule != "required":
                check(Schema((field,)), [{"a": good}, {"a": content}, {"a": good}])
            check(Schema((("b", "required", "int"), field)), [{"b": 1, "a": content}])
            check(Schema((("g", "required", (field,)),)), [{"g": {"a": content}}])
            check(Schema((("g", "optional", (field,)),)), [{"g": {"a": content}}])
            if not isinstance(kind, tuple):
                schema = Schema((("g", "repeated", (("h", "optional", (field,)),)),))
                check(schema, [{"g": [{"h": None}, {"h": {"a": content}}]}])

    def test_good_records(self):
        self.assert_taken(BOOK, [])
        self.assert_taken(BOOK, [GOOD])
        self.assert_taken(BOOK, [GOOD, {"id": 0, "authors": [], "print": None}, GOOD])

    def test_drawn_records(self):
        for source in draws(50):
            schema = drawn_schema(source)
            self.assertIs(check_records(schema, drawn_records(source, schema)), None)

    def test_no_list(self):
        for records in (*NO_LISTS, (GOOD,), GOOD, "GOOD", {0: GOOD}, BOOK):
            with self.subTest(records=records):
                self.assert_refused(BOOK, records)

    def test_numbers_of_records(self):
        schema = Schema((("a", "required", "int"),))
        for count in (0, 1, 99, 100):
            self.assert_taken(schema, [{"a": 1}] * count)
        for count in (101, 102, 1000, 1001, 5000):
            self.assert_refused(schema, [{"a": 1}] * count)

    def test_no_dict(self):
        for record in (None, *NO_DICTS):
            with self.subTest(record=record):
                self.assert_refused(BOOK, [record])
                self.assert_refused(BOOK, [GOOD, record])
                self.assert_refused(BOOK, [record, GOOD])
                self.assert_refused(BOOK, [changed(("authors", 1), record)])
                if record is not None:
                    self.assert_refused(BOOK, [changed(("print",), record)])

    def test_names(self):
        author = {"name": "Ann", "mails": []}
        for record in (
            {}, {"id": 1}, {"id": 1, "authors": []}, {"authors": [], "print": None},
            {"id": 1, "authors": [], "print": None, "more": 1},
            {"more": None, "id": 1, "authors": [], "print": None},
            {"id": 1, "authors": [], "prints": None}, {"ID": 1, "authors": [], "print": None},
            {"id": 1, "print": None, "authors": []}, {"print": None, "authors": [], "id": 1},
            {"authors": [], "id": 1, "print": None},
            {0: 1, 1: [], 2: None}, {"id": 1, "authors": [], None: None}, {"id": 1, "authors": [], b"print": None},
            {"id": 1, "authors.name": "a", "authors.mails": [], "print.city": None},
            {"id": 1, "authors": [{}], "print": None},
            {"id": 1, "authors": [{"name": "a"}], "print": None},
            {"id": 1, "authors": [{"mails": []}], "print": None},
            {"id": 1, "authors": [{"mails": [], "name": "a"}], "print": None},
            {"id": 1, "authors": [{"name": "a", "mails": [], "more": 1}], "print": None},
            {"id": 1, "authors": [author, author, {"name": "a", "mail": []}], "print": None},
            {"id": 1, "authors": [], "print": {"sold": True, "city": None}},
            {"id": 1, "authors": [], "print": {}},
            {"id": 1, "authors": [], "print": {"city": None}},
        ):
            with self.subTest(record=record):
                self.assert_refused(BOOK, [record])
                self.assert_refused(BOOK, [GOOD, record, GOOD])

    def test_names_are_texts(self):
        self.assert_refused(BOOK, [{Alike("id"): 1, "authors": [], "print": None}])
        self.assert_refused(BOOK, [{"id": 1, "authors": [], Alike("print"): None}])

    def test_required_fields_have_an_occurrence(self):
        for kind in VALUES:
            self.assert_content("required", kind, None, False)
            self.assert_content("required", kind, [], False)
            for value in VALUES[kind]:
                self.assert_content("required", kind, [value], False)
        self.assert_refused(BOOK, [changed(("authors", 0, "name"), None)])
        self.assert_refused(BOOK, [changed(("print", "sold"), None)])
        self.assert_refused(Schema((("g", "required", (("a", "optional", "int"),)),)), [{"g": None}])

    def test_values_at_the_bounds(self):
        for kind in VALUES:
            for value in VALUES[kind]:
                self.assert_content("required", kind, value, True)
                self.assert_content("optional", kind, value, True)
                self.assert_content("repeated", kind, [value], True)
                self.assert_content("repeated", kind, [value, value, VALUES[kind][0]], True)

    def test_values_of_no_kind(self):
        for kind in VALUES:
            for value in NO_VALUES:
                self.assert_content("required", kind, value, False)
                self.assert_content("optional", kind, value, False)
                self.assert_content("repeated", kind, [value], False)
                self.assert_content("repeated", kind, [VALUES[kind][0], value], False)

    def test_values_of_another_kind(self):
        for kind in VALUES:
            for other in VALUES:
                if other != kind:
                    for value in VALUES[other]:
                        self.assert_content("required", kind, value, False)
                        self.assert_content("optional", kind, value, False)
                        self.assert_content("repeated", kind, [value], False)

    def test_no_occurrence(self):
        for kind in VALUES:
            self.assert_content("optional", kind, None, True)
            self.assert_content("repeated", kind, [], True)
            self.assert_content("repeated", kind, None, False)
            self.assert_content("repeated", kind, [None], False)
            self.assert_content("optional", kind, [], False)
            self.assert_content("optional", kind, [VALUES[kind][0]], False)

    def test_repeated_fields_hold_lists(self):
        for content in NO_LISTS:
            for kind in VALUES:
                self.assert_content("repeated", kind, content, False)
            self.assert_content("repeated", (("x", "optional", "int"),), content, False)
        for kind in VALUES:
            for value in VALUES[kind]:
                self.assert_content("repeated", kind, value, False)
                self.assert_content("repeated", kind, (value,), False)
        self.assert_content("repeated", (("x", "optional", "int"),), {"x": 1}, False)

    def test_numbers_of_occurrences(self):
        group = (("x", "optional", "int"),)
        for count in (0, 1, 99, 100, 101, 102, 1000):
            taken = count <= 100
            self.assert_content("repeated", "int", [5] * count, taken)
            self.assert_content("repeated", "text", ["a"] * count, taken)
            self.assert_content("repeated", "flag", [True] * count, taken)
            self.assert_content("repeated", group, [{"x": None}] * count, taken)

    def test_occurrences_in_several_lists_do_not_add_up(self):
        self.assert_taken(BOOK, [{"id": 1, "authors": [{"name": "", "mails": ["a"] * 100}] * 5, "print": None}])

    def test_the_last_of_a_hundred_counts(self):
        schema = Schema((("a", "repeated", "int"),))
        self.assert_refused(schema, [{"a": [1] * 99 + [True]}])
        self.assert_refused(schema, [{"a": [1]}] * 99 + [{"a": [None]}])

    def test_wrong_values_within_groups(self):
        for way, value in (
            (("id",), True), (("id",), "7"), (("id",), 2147483648), (("authors", 0, "name"), 5),
            (("authors", 1, "name"), "a" * 101), (("authors", 0, "mails"), "a@b"), (("authors", 0, "mails", 1), None),
            (("authors", 1, "mails"), ["a"] * 101), (("authors", 0, "mails", 0), "a#b"), (("print", "city"), True),
            (("print", "sold"), 1), (("print", "sold"), 0), (("print", "sold"), "True"), (("print",), []),
            (("print",), [GOOD["print"]]), (("authors",), GOOD["authors"][0]), (("authors",), None),
        ):
            with self.subTest(way=way, value=value):
                self.assert_refused(BOOK, [changed(way, value)])
                self.assert_refused(BOOK, [GOOD, changed(way, value)])

    def test_lists_within_themselves(self):
        endless = []
        endless.append(endless)
        circle = {}
        circle["a"] = circle
        for kind in ("int", (("a", "repeated", "int"),)):
            schema = Schema((("a", "repeated", kind),))
            self.assert_refused(schema, endless)
            self.assert_refused(schema, [{"a": endless}])
            self.assert_refused(schema, [circle])

    def test_refusal_is_a_kin_error(self):
        with self.assertRaises(KinError):
            check_records(BOOK, None)

    def test_arguments_stay_as_they_are(self):
        for records in ([GOOD], [GOOD, changed(("id",), None)], [changed(("authors", 1, "mails"), [5])], [[], {}]):
            before = copy.deepcopy(records)
            orders = [list(record) for record in records]
            try:
                check_records(BOOK, records)
            except BadRecord:
                pass
            self.assertEqual(records, before)
            self.assertEqual([list(record) for record in records], orders)


if __name__ == "__main__":
    unittest.main()
