"""Points 3, 7 and 20: papers on whether columns belong to common records, and who judges and makes them."""

import copy
import unittest

from columnkin.columns import skeleton, validate
from columnkin.errors import BadParts
from columnkin.papers import judge, paper_for
from columnkin.records import shred
from columnkin.schemas import Schema

BOOK = Schema((
    ("id", "required", "int"),
    ("authors", "repeated", (("name", "required", "text"), ("mails", "repeated", "text"))),
    ("sold", "optional", "flag"),
))
BOOKS = [
    {"id": 1, "authors": [{"name": "A", "mails": ["a", "b"]}, {"name": "B", "mails": []}], "sold": None},
    {"id": 0, "authors": [], "sold": True},
]
IDS, NAMES, MAILS, SOLD = COLUMNS = shred(BOOK, BOOKS)
NONE = (None,) * 4
TAGS = Schema((("id", "required", "int"), ("tags", "repeated", "text")))
FLAT = Schema((("a", "required", "int"), ("b", "required", "flag")))

# Things that are no paper, nor a part of one.
STRANGE = (
    None, True, False, 0, 1, -1, 2.5, "", "records", "entry", "pair", b"entry", (), [], {}, set(), object(), int, len,
    ("records",), ["records", []], {"records": []}, BOOK, range(3), 10 ** 30, float("nan"),
)
# They lie about what they equal, or can't be asked.
STUBBORN = (
    type("Same", (), {"__eq__": lambda self, other: True, "__hash__": lambda self: 0})(),
    type("Wild", (), {"__eq__": lambda self, other: 1 // 0, "__hash__": lambda self: 1 // 0})(),
    type("Mute", (), {"__len__": lambda self: 1 // 0, "__bool__": lambda self: 1 // 0})(),
    type("Word", (str,), {"__eq__": lambda self, other: 1 // 0, "__hash__": str.__hash__})("records"),
    type("Number", (int,), {"__lt__": lambda self, other: 1 // 0, "__ge__": lambda self, other: 1 // 0})(0),
    type("Row", (tuple,), {"__len__": lambda self: 1 // 0, "__iter__": lambda self: 1 // 0})(("records", [])),
    type("List", (list,), {"__len__": lambda self: 1 // 0, "__iter__": lambda self: 1 // 0})([]),
    type("Dict", (dict,), {"__getitem__": lambda self, key: 1 // 0, "__iter__": lambda self: 1 // 0})({"id": 1}),
)
NO_NUMBERS = (*STRANGE[:3], *STRANGE[6:], *STUBBORN, -2, 5, 1000, -(10 ** 30), "0", "1", (0,), [0], 0.0, 1.0)


class JudgeTest(unittest.TestCase):
    def assert_taken(self, schema, parts, paper):
        self.assert_judged(schema, parts, paper, True)

    def assert_refused(self, schema, parts, paper):
        self.assert_judged(schema, parts, paper, False)

    def assert_judged(self, schema, parts, paper, taken):
        with self.subTest(parts=parts):
            self.assertIs(judge(schema, parts, paper), taken)


class RecordsTest(JudgeTest):
    def test_records_of_the_columns(self):
        self.assert_taken(BOOK, COLUMNS, ("records", BOOKS))
        self.assert_taken(BOOK, ((),) * 4, ("records", []))

    def test_missing_columns_ask_for_nothing(self):
        for leaf in range(4):
            self.assert_taken(BOOK, (*COLUMNS[:leaf], None, *COLUMNS[leaf + 1:]), ("records", BOOKS))
            self.assert_taken(BOOK, (*NONE[:leaf], COLUMNS[leaf], *NONE[leaf + 1:]), ("records", BOOKS))
        for records in ([], BOOKS, BOOKS[1:], BOOKS * 50):
            self.assert_taken(BOOK, NONE, ("records", records))

    def test_each_column_that_is_there_counts(self):
        others = (
            [dict(BOOKS[0], id=2), BOOKS[1]],
            [dict(BOOKS[0], authors=[{"name": "A", "mails": ["a", "b"]}, {"name": "C", "mails": []}]), BOOKS[1]],
            [dict(BOOKS[0], authors=[{"name": "A", "mails": ["a", "c"]}, {"name": "B", "mails": []}]), BOOKS[1]],
            [dict(BOOKS[0], sold=False), BOOKS[1]],
        )
        for leaf, records in enumerate(others):
            self.assert_refused(BOOK, COLUMNS, ("records", records))
            self.assert_refused(BOOK, (*NONE[:leaf], COLUMNS[leaf], *NONE[leaf + 1:]), ("records", records))
            self.assert_taken(BOOK, (*COLUMNS[:leaf], None, *COLUMNS[leaf + 1:]), ("records", records))

    def test_records_in_another_number_or_order(self):
        for records in ([], BOOKS[:1], BOOKS[1:], BOOKS[::-1], BOOKS + BOOKS, BOOKS + BOOKS[:1]):
            self.assert_refused(BOOK, COLUMNS, ("records", records))

    def test_true_is_not_one(self):
        """Parts may hold values of any kind, and Python takes True for equal to 1."""
        for number, flag in ((1, True), (0, False)):
            right = [{"a": number, "b": flag}]
            self.assert_taken(FLAT, (((0, 0, number),), ((0, 0, flag),)), ("records", right))
            for first, second in ((flag, flag), (number, number), (flag, number)):
                self.assert_refused(FLAT, (((0, 0, first),), ((0, 0, second),)), ("records", right))
            self.assert_refused(FLAT, (((0, 0, flag),), None), ("records", right))
            self.assert_refused(FLAT, (None, ((0, 0, number),)), ("records", right))
            for record in ({"a": flag, "b": flag}, {"a": number, "b": number}, {"a": flag, "b": number}):
                self.assert_refused(FLAT, (((0, 0, number),), ((0, 0, flag),)), ("records", [record]))
                self.assert_refused(FLAT, (((0, 0, flag),), ((0, 0, number),)), ("records", [record]))
                self.assert_refused(FLAT, (None, None), ("records", [record]))

    def test_records_that_are_none(self):
        for records in (
            tuple(BOOKS), {0: BOOKS[0]}, BOOKS[0], *STRANGE, *STUBBORN, *[[strange] for strange in (*STRANGE, *STUBBORN)],
            [{}], [{"id": 1}], [dict(BOOKS[0], more=1)], [dict(reversed(BOOKS[0].items()))], [dict(BOOKS[0], id="1")],
            [dict(BOOKS[0], id=2147483648)], [dict(BOOKS[0], id=None)], [dict(BOOKS[0], sold=1)],
            [dict(BOOKS[0], authors=None)], [dict(BOOKS[0], authors=())], [dict(BOOKS[0], authors=[None])],
            [dict(BOOKS[0], authors=[{"name": "A", "mails": "ab"}])], [dict(BOOKS[0], authors=[{"name": "%", "mails": []}])],
            [{STUBBORN[0]: 1, "authors": [], "sold": None}], [{0: 1, True: 1, None: 1}],
        ):
            if type(records) is not list or records:
                self.assert_refused(BOOK, NONE, ("records", records))
                self.assert_refused(BOOK, COLUMNS, ("records", records))
                self.assert_refused(BOOK, ((),) * 4, ("records", records))

    def test_records_that_contain_themselves(self):
        records, record = [], {"id": 1, "authors": [], "sold": None}
        records.append(records)
        record["authors"].append(record)
        self.assert_refused(BOOK, NONE, ("records", records))
        self.assert_refused(BOOK, NONE, ("records", [record]))

    def test_number_of_records_and_occurrences(self):
        for many, taken in ((99, True), (100, True), (101, False)):
            self.assert_judged(TAGS, (((0, 0, 7),) * many, None), ("records", [{"id": 7, "tags": []}] * many), taken)
            self.assert_judged(TAGS, (None, None), ("records", [{"id": 7, "tags": []}] * many), taken)
            column = ((0, 1, "a"), *((1, 1, "a"),) * (many - 1))
            self.assert_judged(TAGS, (None, column), ("records", [{"id": 1, "tags": ["a"] * many}]), taken)

    def test_entries_that_can_be_written(self):
        column = ((0, 1, "a"), *((1, 1, "a"),) * 99) * 10
        self.assertEqual(len(column), 1000)
        full = [{"id": 1, "tags": ["a"] * 100}] * 10
        self.assert_taken(TAGS, (((0, 0, 1),) * 10, column), ("records", full))
        self.assert_taken(TAGS, (None, None), ("records", full))
        for records in (full + [{"id": 1, "tags": []}], full * 10):
            self.assert_refused(TAGS, (((0, 0, 1),) * 10, column), ("records", records))
            self.assert_refused(TAGS, (((0, 0, 1),) * len(records), None), ("records", records))
            self.assert_refused(TAGS, (None, None), ("records", records))

    def test_unsound_columns_are_of_no_records(self):
        for column in (((1, 1, "a"),), ((0, 1, None),), ((0, 0, "a"),), ((0, 2, "a"),), ((0, 1, 5),)):
            for records in ([], [{"id": 1, "tags": []}], [{"id": 1, "tags": ["a"]}]):
                self.assert_refused(TAGS, (None, column), ("records", records))


class EntryTest(JudgeTest):
    COLUMN = ((0, 1, "a"), (1, 0, None), (0, 1, 5), (0, 0, None), (1, 1, "b"))

    def test_entries(self):
        for index, taken in enumerate((False, True, True, False, True)):
            self.assert_judged(TAGS, (None, self.COLUMN), ("entry", 1, index), taken)
            self.assert_judged(TAGS, (((0, 0, 1),), self.COLUMN), ("entry", 1, index), taken)
            self.assert_judged(TAGS, (((0, 0, "a"),), self.COLUMN), ("entry", 1, index), taken)

    def test_each_leaf_has_its_own_rules(self):
        parts = (((0, 0, 1), (0, 0, True)), ((0, 0, 1), (0, 0, True)))
        self.assertEqual(
            [[judge(FLAT, parts, ("entry", leaf, index)) for index in range(2)] for leaf in range(2)],
            [[False, True], [True, False]],
        )

    def test_missing_columns_and_no_entries(self):
        for index in (0, 1, -1):
            self.assert_refused(TAGS, (None, self.COLUMN), ("entry", 0, index))
            self.assert_refused(TAGS, ((), self.COLUMN), ("entry", 0, index))
        for index in (-1, -2, -3, -4, -5, -6, 5, 6, 1000, 10 ** 30, -(10 ** 30)):
            self.assert_refused(TAGS, (None, self.COLUMN), ("entry", 1, index))
        for leaf in (-1, -2, 2, 3, 12, 10 ** 30):
            for index in (0, 1, 2):
                self.assert_refused(TAGS, (self.COLUMN, self.COLUMN), ("entry", leaf, index))

    def test_no_numbers(self):
        parts = (((0, 0, "a"), (0, 0, "b")), ((0, 1, 5), (0, 1, 6)))
        self.assert_taken(TAGS, parts, ("entry", 0, 1))
        self.assert_taken(TAGS, parts, ("entry", 1, 0))
        for other in NO_NUMBERS:
            for number in (0, 1, other):
                self.assert_refused(TAGS, parts, ("entry", other, number))
                self.assert_refused(TAGS, parts, ("entry", number, other))


class PairTest(JudgeTest):
    # At the author, the skeletons of the names and the mails are unlike at 1, and only one has a pair at 3.
    PARTS = (
        None,
        ((0, 1, "A"), (1, 1, "B"), (0, 1, "C"), (0, 0, None)),
        ((0, 2, "a"), (2, 2, "b"), (0, 1, None), (0, 1, None)),
        ((0, 0, None), (0, 1, True), (0, 0, None)),
    )

    def assert_pairs(self, parts, first, second, indices):
        """Just these indices show that the columns do not fit, in both orders of the leaves."""
        for index in range(-3, 10):
            self.assert_judged(BOOK, parts, ("pair", first, second, index), index in indices)
            self.assert_judged(BOOK, parts, ("pair", second, first, index), index in indices)

    def test_unlike_pairs_and_pairs_of_just_one(self):
        self.assertEqual(skeleton(self.PARTS[1], 1, 1), ((0, 1), (1, 1), (0, 1), (0, 0)))
        self.assertEqual(skeleton(self.PARTS[2], 1, 1), ((0, 1), (0, 1), (0, 1)))
        self.assert_pairs(self.PARTS, 1, 2, (1, 3))

    def test_columns_that_fit(self):
        self.assert_pairs(self.PARTS, 1, 3, ())
        self.assert_pairs(self.PARTS, 2, 3, ())
        for first in range(4):
            for second in range(4):
                self.assert_pairs(COLUMNS, first, second, ())

    def test_no_pair_of_a_column_with_itself(self):
        for leaf in range(4):
            self.assert_pairs(self.PARTS, leaf, leaf, ())

    def test_empty_columns(self):
        self.assert_pairs((IDS, (), None, ()), 0, 1, (0, 1))
        self.assert_pairs((IDS, (), None, ()), 0, 3, (0, 1))
        self.assert_pairs((IDS, (), None, ()), 1, 3, ())

    def test_missing_columns(self):
        for other in (1, 2, 3):
            self.assert_pairs(self.PARTS, 0, other, ())

    def test_columns_that_are_not_sound(self):
        parts = (IDS, (*NAMES, (0, 0, "A")), MAILS, SOLD[:1])
        self.assert_pairs(parts, 0, 1, ())
        self.assert_pairs(parts, 1, 2, ())
        self.assert_pairs(parts, 1, 3, ())
        self.assert_pairs(parts, 0, 3, (1,))
        self.assert_pairs(parts, 2, 3, (1,))

    def test_no_leaves(self):
        parts = (IDS, (), MAILS, ())
        self.assert_taken(BOOK, parts, ("pair", 0, 3, 0))
        for other in (-1, -2, -3, -4, -5, 4, 5, 12, 10 ** 30):
            for leaf in range(4):
                for index in (0, 1):
                    self.assert_refused(BOOK, parts, ("pair", leaf, other, index))
                    self.assert_refused(BOOK, parts, ("pair", other, leaf, index))

    def test_no_numbers(self):
        parts = (((0, 0, 1), (0, 0, 1)), ())
        for paper in (("pair", 0, 1, 0), ("pair", 1, 0, 1)):
            self.assert_taken(TAGS, parts, paper)
            for place in (1, 2, 3):
                for other in NO_NUMBERS:
                    self.assert_refused(TAGS, parts, (*paper[:place], other, *paper[place + 1:]))

    def test_true_in_the_place_of_a_number(self):
        parts = (((0, 0, 1), (0, 0, 1)), ())
        for paper in (("pair", False, 1, 0), ("pair", 0, True, 0), ("pair", 0, 1, False), ("pair", 0, 1, True)):
            self.assert_refused(TAGS, parts, paper)


class OtherPapersTest(JudgeTest):
    CASES = (
        (COLUMNS, ("records", BOOKS)),
        ((None, ((1, 1, "A"),), None, None), ("entry", 1, 0)),
        ((IDS, (), None, None), ("pair", 0, 1, 0)),
    )

    def test_anything_else(self):
        for parts, paper in self.CASES:
            self.assert_taken(BOOK, parts, paper)
            for other in (*STRANGE, *STUBBORN):
                self.assert_refused(BOOK, parts, other)
                self.assert_refused(BOOK, parts, (other,))
                self.assert_refused(BOOK, parts, (other, *paper))
                if type(other) is not str or other != paper[0]:
                    self.assert_refused(BOOK, parts, (other, *paper[1:]))

    def test_other_words(self):
        words = (
            "", "record", "Records", "records ", "entries", "Entry", "pairs", "Pair", "fault", "a" * 1000, "\ud800", 0, 1,
            b"records", b"entry", b"pair", ("records",), ["records"], "records", "entry", "pair",
        )
        for parts, paper in self.CASES:
            for word in words:
                if word != paper[0]:
                    self.assert_refused(BOOK, parts, (word, *paper[1:]))

    def test_other_lengths(self):
        for parts, paper in self.CASES:
            for length in range(len(paper)):
                self.assert_refused(BOOK, parts, paper[:length])
            for more in (None, 0, [], BOOKS, "pair"):
                self.assert_refused(BOOK, parts, (*paper, more))
            self.assert_refused(BOOK, parts, (paper,))
            self.assert_refused(BOOK, parts, paper * 2)

    def test_lists_in_the_place_of_tuples(self):
        for parts, paper in self.CASES:
            self.assert_refused(BOOK, parts, list(paper))
            self.assert_refused(BOOK, parts, [*paper[:1], [*paper[1:]]])
            self.assert_refused(BOOK, parts, dict(enumerate(paper)))

    def test_arguments_stay_as_they_are(self):
        for parts, paper in self.CASES:
            for some in (paper, list(paper), ("records", [{"id": [1]}])):
                before = copy.deepcopy((parts, some))
                judge(BOOK, parts, some)
                self.assertEqual(repr((parts, some)), repr(before))

    def test_bad_parts_come_first(self):
        for parts in (
            None, 0, [], (), (None,) * 3, (None,) * 5, [None] * 4, (None, None, None, 5), (*COLUMNS[:3], []),
            (((0, 0),), None, None, None), (((0, 4, None),), None, None, None), (((True, 0, 1),), None, None, None),
            (((0, 0, 1),) * 1001, None, None, None), (((0, 0, 1.0),), None, None, None),
        ):
            with self.subTest(parts=parts):
                for paper in (
                    ("records", BOOKS), ("records", []), ("records", None), ("entry", 0, 0), ("entry", 3, 0),
                    ("pair", 0, 1, 0), None, 0, (), "records", *STUBBORN,
                ):
                    with self.assertRaises(BadParts):
                        judge(BOOK, parts, paper)
                with self.assertRaises(BadParts):
                    paper_for(BOOK, parts)


class MakerTest(unittest.TestCase):
    def assert_made(self, schema, parts, word):
        before = copy.deepcopy(parts)
        paper = paper_for(schema, parts)
        self.assertIs(type(paper), tuple)
        self.assertEqual(paper[0], word)
        self.assertIs(judge(schema, parts, paper), True)
        self.assertEqual(repr(parts), repr(before))

    def test_columns_of_records(self):
        self.assert_made(BOOK, COLUMNS, "records")
        self.assert_made(BOOK, NONE, "records")
        self.assert_made(BOOK, ((),) * 4, "records")
        for leaf in range(4):
            self.assert_made(BOOK, (*COLUMNS[:leaf], None, *COLUMNS[leaf + 1:]), "records")
            self.assert_made(BOOK, (*NONE[:leaf], COLUMNS[leaf], *NONE[leaf + 1:]), "records")

    def test_entries_that_are_not_admissible(self):
        for leaf in range(4):
            for at in (0, 1, 2):
                for entry in ((3, 3, None), (0, 0, ""), (1, 0, None)):
                    column = (*COLUMNS[leaf][:at], entry, *COLUMNS[leaf][at:])
                    parts = (*COLUMNS[:leaf], column, *COLUMNS[leaf + 1:])
                    self.assertEqual(validate(BOOK, parts)[0], "entry")
                    self.assert_made(BOOK, parts, "entry")

    def test_columns_that_do_not_fit(self):
        self.assert_made(BOOK, PairTest.PARTS, "pair")
        for leaf in range(4):
            for column in ((), COLUMNS[leaf][:-1], (*COLUMNS[leaf], (0, 0, 7 if leaf == 0 else None))):
                if leaf != 1 or column != COLUMNS[1][:-1]:
                    self.assert_made(BOOK, (*COLUMNS[:leaf], column, *COLUMNS[leaf + 1:]), "pair")

    def test_difference_at_the_last_pair(self):
        ids = ((0, 0, 1),) * 100
        tags = ((0, 0, None),) * 100
        self.assert_made(TAGS, (ids, tags), "records")
        self.assert_made(TAGS, (ids, tags[1:]), "pair")
        self.assert_made(TAGS, (ids[1:], tags), "pair")
        group = Schema((("g", "repeated", (("a", "required", "int"), ("b", "required", "int"))),))
        column = ((0, 1, 1),) * 99
        self.assert_made(group, ((*column, (1, 1, 1)), (*column, (0, 1, 1))), "pair")

    def test_columns_of_a_hundred_entries(self):
        tags = ((0, 1, "a"), *((1, 1, "a"),) * 99)
        self.assert_made(TAGS, (((0, 0, 1),), tags), "records")
        self.assert_made(TAGS, (None, tags), "records")
        self.assert_made(TAGS, (((0, 0, 1),) * 100, None), "records")
        self.assert_made(TAGS, (None, ((0, 1, "a"),) * 100), "records")
        self.assert_made(TAGS, (((0, 0, 1),) * 100, ((0, 1, "a"),) * 99 + ((1, 0, None),)), "entry")
        self.assert_made(TAGS, (((0, 0, 1),) * 2, tags), "pair")

    def test_longer_columns_raise_no_error(self):
        self.assert_made(TAGS, (((0, 0, 1),) * 3, ((0, 1, "a"), *((1, 1, "a"),) * 99) * 3), "records")
        for parts in ((((0, 0, 1),) * 101, None), (None, ((0, 1, "a"), *((1, 1, "a"),) * 100))):
            paper_for(TAGS, parts)

    def test_records_are_new_each_time(self):
        first, second = paper_for(BOOK, COLUMNS)[1], paper_for(BOOK, COLUMNS)[1]
        first[0]["authors"].append(5)
        first.append(5)
        self.assertEqual(second, BOOKS)
        self.assertEqual(paper_for(BOOK, COLUMNS)[1], BOOKS)


if __name__ == "__main__":
    unittest.main()
