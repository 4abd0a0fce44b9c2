"""Points 9 to 11: admissible entries, skeletons, and the first problem of parts."""

import itertools
import unittest

from columnkin.columns import first_fault, is_admissible, skeleton, validate
from columnkin.schemas import Schema

TAGS = Schema((("id", "required", "int"), ("tags", "repeated", "text")))
BOOK = Schema((
    ("id", "required", "int"),
    ("authors", "repeated", (("name", "required", "text"), ("mails", "repeated", "text"))),
    ("print", "optional", (("city", "optional", "text"),)),
))
# The starts of the leaf are 2 and 3, because the outermost field is optional.
DEEP = Schema((("g", "optional", (("h", "repeated", (("x", "repeated", "int"),)),)),))
# All three fields on the way are repeated.
LISTS = Schema((("g", "repeated", (("h", "repeated", (("x", "repeated", "int"),)),)),))


def one(rule, kind="int"):
    """A schema with a single leaf."""
    return Schema((("a", rule, kind),))


class AdmissibleTest(unittest.TestCase):
    def assert_admissible(self, schema, leaf, column, verdicts):
        with self.subTest(schema=schema.fields, leaf=leaf, column=column):
            found = [is_admissible(schema, leaf, column, index) for index in range(len(column))]
            self.assertEqual(found, verdicts)
            self.assertTrue(all(type(verdict) is bool for verdict in found))
            fault = verdicts.index(False) if False in verdicts else None
            answer = first_fault(schema, leaf, column)
            self.assertEqual((type(answer), answer), (type(fault), fault))

    def test_empty_column(self):
        for leaf in range(4):
            self.assert_admissible(BOOK, leaf, (), [])

    def test_definition_levels_and_values(self):
        for rule, most in (("required", 0), ("optional", 1), ("repeated", 1)):
            for definition in range(4):
                for value in (None, 5):
                    verdict = definition <= most and (value is None) == (definition < most)
                    self.assert_admissible(one(rule), 0, ((0, definition, value),), [verdict])

    def test_definition_levels_three_deep(self):
        for definition in range(4):
            for value in (None, 0):
                self.assert_admissible(DEEP, 0, ((0, definition, value),), [(value is None) == (definition < 3)])

    def test_values_of_the_kind_of_the_leaf(self):
        values = {"int": (0, 5, -2147483648, 2147483647), "text": ("", "a", "1" * 100), "flag": (True, False)}
        for kind, other in itertools.product(values, values):
            for value in values[other]:
                for rule, definition in (("required", 0), ("optional", 1), ("repeated", 1)):
                    column = ((0, definition, value),)
                    self.assert_admissible(one(rule, kind), 0, column, [kind == other])

    def test_values_somewhat_beyond_the_limits(self):
        for kind, value in (
            ("int", 2147483648), ("int", -2147483649), ("text", "a" * 101), ("text", "#"), ("text", "\n"), ("text", "\u00e4"),
        ):
            self.assert_admissible(one("required", kind), 0, ((0, 0, value),), [False])
            self.assert_admissible(one("required", kind), 0, ((0, 0, None),), [False])

    def test_levels_somewhat_beyond_the_limits(self):
        for schema in (one("required"), one("repeated"), DEEP, LISTS):
            for level in (4, 5, 100):
                self.assert_admissible(schema, 0, ((0, level, 1),), [False])
                self.assert_admissible(schema, 0, ((0, level, None),), [False])
                self.assert_admissible(schema, 0, ((level, 0, None),), [False])

    def test_long_columns(self):
        for length in (1000, 1001):
            column = ((0, 0, 1),) * length
            self.assertIs(first_fault(TAGS, 0, column), None)
            self.assertEqual(first_fault(TAGS, 0, (*column, (0, 0, None))), length)
            self.assertIs(is_admissible(TAGS, 0, column, length - 1), True)

    def test_what_is_no_entry_is_not_admissible(self):
        column = ((0, 0, 1), (-1, 0, 1), (0, -1, None), (0, 0), (0, 0, 1, 1), None)
        for index, right in ((-7, False), (-1, False), (0, True), *[(index, False) for index in (1, 2, 3, 4, 5, 6, 100)]):
            self.assertIs(is_admissible(TAGS, 0, column, index), right)
        self.assertIs(is_admissible(TAGS, 0, (), 0), False)

    def test_repetition_levels_beyond_that_of_the_leaf(self):
        ahead = (0, 1, 1)
        for schema, most in ((one("optional"), 0), (one("repeated"), 1)):
            for repetition in range(4):
                self.assert_admissible(schema, 0, (ahead, (repetition, 1, 1)), [True, repetition <= most])

    def test_required_leaf_is_never_repeated(self):
        self.assert_admissible(TAGS, 0, ((0, 0, 1), (1, 0, 2), (0, 0, 3)), [True, False, True])

    def test_first_entry_has_repetition_level_zero(self):
        for repetition in (1, 2, 3):
            column = ((repetition, 3, 1),)
            self.assert_admissible(LISTS, 0, column, [False])
        self.assert_admissible(TAGS, 1, ((1, 1, "a"), (1, 1, "b")), [False, True])

    def test_the_last_entry_is_not_ahead_of_the_first(self):
        self.assert_admissible(TAGS, 1, ((1, 1, "a"), (0, 1, "b")), [False, True])

    def test_list_goes_on_only_behind_what_is_in_it(self):
        self.assert_admissible(TAGS, 1, ((0, 1, "a"), (1, 1, "b"), (0, 0, None), (1, 1, "c")), [True, True, True, False])
        self.assert_admissible(TAGS, 1, ((0, 1, "a"), (1, 0, None), (1, 1, "c")), [True, False, False])

    def test_starts_below_an_optional_group(self):
        """Starts 2 and 3: start(k) counts optional fields ahead, too."""
        for repetition, start in ((1, 2), (2, 3)):
            for ahead, here in itertools.product(range(4), repeat=2):
                column = ((0, ahead, 1 if ahead == 3 else None), (repetition, here, 1 if here == 3 else None))
                self.assert_admissible(DEEP, 0, column, [True, ahead >= start and here >= start])

    def test_starts_of_three_lists(self):
        for repetition in (1, 2, 3):
            for ahead, here in itertools.product(range(4), repeat=2):
                column = ((0, ahead, 1 if ahead == 3 else None), (repetition, here, 1 if here == 3 else None))
                verdict = ahead >= repetition and here >= repetition
                self.assert_admissible(LISTS, 0, column, [True, verdict])

    def test_starts_for_all_rules(self):
        rules = ("required", "optional", "repeated")
        for way in itertools.product(rules, repeat=3):
            schema = Schema((("g", way[0], (("h", way[1], (("x", way[2], "int"),)),)),))
            levels = [sum(rule != "required" for rule in way[:k + 1]) for k in range(3)]
            starts = [level for level, rule in zip(levels, way) if rule == "repeated"]
            last = levels[2]
            for repetition, ahead, here in itertools.product(range(4), range(last + 1), range(last + 1)):
                column = ((0, ahead, 1 if ahead == last else None), (repetition, here, 1 if here == last else None))
                verdict = repetition == 0 or (
                    repetition <= len(starts) and min(ahead, here) >= starts[repetition - 1]
                )
                self.assert_admissible(schema, 0, column, [True, verdict])

    def test_only_the_entry_ahead_counts(self):
        column = ((0, 3, 1), (1, 1, None), (3, 3, 1), (3, 3, 2), (2, 2, None), (2, 3, 1))
        self.assert_admissible(LISTS, 0, column, [True, True, False, True, True, True])

    def test_an_inadmissible_entry_ahead_still_counts(self):
        self.assert_admissible(TAGS, 1, ((0, 1, None), (1, 1, "a")), [False, True])
        self.assert_admissible(TAGS, 1, ((0, 1, 5), (1, 1, "a")), [False, True])
        self.assert_admissible(TAGS, 1, ((0, 3, "b"), (1, 1, "a")), [False, True])
        self.assert_admissible(TAGS, 1, ((0, 0, "b"), (1, 1, "a")), [False, False])

    def test_leaves_of_one_schema(self):
        column = ((0, 1, "a"),)
        self.assertEqual([is_admissible(BOOK, leaf, column, 0) for leaf in range(4)], [False, True, False, False])
        column = ((0, 2, "a"),)
        self.assertEqual([is_admissible(BOOK, leaf, column, 0) for leaf in range(4)], [False, False, True, True])
        column = ((0, 2, "a"), (2, 2, "b"), (1, 1, None), (1, 2, "c"))
        self.assert_admissible(BOOK, 2, column, [True, True, True, True])
        self.assert_admissible(BOOK, 3, column, [True, False, False, False])

    def test_first_of_several_faults(self):
        good, bad = (0, 0, 1), (0, 0, None)
        for faults in itertools.product((False, True), repeat=4):
            column = tuple([bad if fault else good for fault in faults])
            self.assert_admissible(TAGS, 0, column, [not fault for fault in faults])


class SkeletonTest(unittest.TestCase):
    COLUMN = ((0, 3, 7), (1, 1, None), (2, 2, None), (3, 3, 8), (0, 0, None), (1, 3, 9), (1, 2, None), (0, 1, "a"))

    def test_levels_from_zero_to_three(self):
        expected = {
            (0, 0): ((0, 0), (0, 0), (0, 0)),
            (0, 1): ((0, 1), (0, 0), (0, 1)),
            (0, 2): ((0, 2), (0, 0), (0, 1)),
            (0, 3): ((0, 3), (0, 0), (0, 1)),
            (1, 0): ((0, 0), (1, 0), (0, 0), (1, 0), (1, 0), (0, 0)),
            (1, 1): ((0, 1), (1, 1), (0, 0), (1, 1), (1, 1), (0, 1)),
            (1, 2): ((0, 2), (1, 1), (0, 0), (1, 2), (1, 2), (0, 1)),
            (1, 3): ((0, 3), (1, 1), (0, 0), (1, 3), (1, 2), (0, 1)),
            (2, 0): ((0, 0), (1, 0), (2, 0), (0, 0), (1, 0), (1, 0), (0, 0)),
            (2, 1): ((0, 1), (1, 1), (2, 1), (0, 0), (1, 1), (1, 1), (0, 1)),
            (2, 2): ((0, 2), (1, 1), (2, 2), (0, 0), (1, 2), (1, 2), (0, 1)),
            (2, 3): ((0, 3), (1, 1), (2, 2), (0, 0), (1, 3), (1, 2), (0, 1)),
            (3, 0): ((0, 0), (1, 0), (2, 0), (3, 0), (0, 0), (1, 0), (1, 0), (0, 0)),
            (3, 1): ((0, 1), (1, 1), (2, 1), (3, 1), (0, 0), (1, 1), (1, 1), (0, 1)),
            (3, 2): ((0, 2), (1, 1), (2, 2), (3, 2), (0, 0), (1, 2), (1, 2), (0, 1)),
            (3, 3): ((0, 3), (1, 1), (2, 2), (3, 3), (0, 0), (1, 3), (1, 2), (0, 1)),
        }
        for levels, pairs in expected.items():
            with self.subTest(levels=levels):
                self.assertEqual(skeleton(self.COLUMN, *levels), pairs)

    def test_all_entries_alone(self):
        for repetition, definition, most_repetition, most_definition in itertools.product(range(4), repeat=4):
            pairs = ((repetition, min(definition, most_definition)),) if repetition <= most_repetition else ()
            for value in (None, 0, 5, "a", True):
                column = ((repetition, definition, value),)
                self.assertEqual(skeleton(column, most_repetition, most_definition), pairs)

    def test_tuples_of_pairs(self):
        found = skeleton(self.COLUMN, 1, 2)
        self.assertIs(type(found), tuple)
        self.assertTrue(all(type(pair) is tuple and len(pair) == 2 for pair in found))
        self.assertEqual(skeleton((), 2, 2), ())
        self.assertEqual(skeleton(((1, 1, 5),), 0, 0), ())

    def test_long_columns(self):
        for length in (1000, 1001):
            self.assertEqual(skeleton(((0, 3, 1),) * length, 0, 2), ((0, 2),) * length)


class ValidateTest(unittest.TestCase):
    def assert_problem(self, schema, parts, problem):
        with self.subTest(parts=parts):
            found = validate(schema, parts)
            self.assertEqual(found, problem)
            self.assertIs(type(found), type(problem))

    def test_columns_that_belong_to_records(self):
        self.assert_problem(TAGS, (((0, 0, 1), (0, 0, 2)), ((0, 1, "a"), (1, 1, "b"), (0, 0, None))), None)
        self.assert_problem(BOOK, (
            ((0, 0, 1), (0, 0, 2)),
            ((0, 1, "A"), (1, 1, "B"), (0, 0, None)),
            ((0, 2, "a@a"), (2, 2, "a@b"), (1, 1, None), (0, 0, None)),
            ((0, 1, None), (0, 2, "Rome")),
        ), None)

    def test_nothing_there(self):
        self.assert_problem(TAGS, ((), ()), None)
        self.assert_problem(TAGS, (None, None), None)
        self.assert_problem(BOOK, (None, (), None, ()), None)

    def test_missing_columns_are_passed_over(self):
        self.assert_problem(TAGS, (((0, 0, 1),), None), None)
        self.assert_problem(TAGS, (None, ((0, 0, None), (0, 0, None))), None)
        self.assert_problem(TAGS, (None, ((1, 1, "a"),)), ("entry", 1, 0))
        columns = (((0, 0, 1),), None, None, ((0, 0, None), (0, 0, None)))
        self.assert_problem(BOOK, columns, ("pair", 0, 3, ""))

    def test_missing_is_not_empty(self):
        self.assert_problem(TAGS, (((0, 0, 1),), ()), ("pair", 0, 1, ""))
        self.assert_problem(TAGS, (((0, 0, 1),), None), None)

    def test_least_leaf_and_first_entry(self):
        good, bad = ((0, 0, 1), (0, 0, 2)), ((0, 0, 1), (0, 0, None), (1, 0, 1))
        schema = Schema(tuple([("f" + str(number), "required", "int") for number in range(4)]))
        for faults in itertools.product((False, True), repeat=4):
            if True in faults:
                parts = tuple([bad if fault else good for fault in faults])
                self.assert_problem(schema, parts, ("entry", faults.index(True), 1))

    def test_entries_come_ahead_of_pairs(self):
        schema = Schema(tuple([("f" + str(number), "required", "int") for number in range(3)]))
        parts = (((0, 0, 1),), ((0, 0, 1), (0, 0, 2)), ((0, 0, 1), (0, 0, 2), (1, 0, 3)))
        self.assert_problem(schema, parts, ("entry", 2, 2))
        self.assert_problem(schema, (*parts[:2], parts[0]), ("pair", 0, 1, ""))

    def test_least_pair(self):
        schema = Schema(tuple([("f" + str(number), "required", "int") for number in range(4)]))
        for lengths in itertools.product((1, 2, None), repeat=4):
            parts = tuple([None if length is None else ((0, 0, 1),) * length for length in lengths])
            pairs = [
                (i, j) for i in range(4) for j in range(i + 1, 4)
                if None not in (lengths[i], lengths[j]) and lengths[i] != lengths[j]
            ]
            self.assert_problem(schema, parts, ("pair", *pairs[0], "") if pairs else None)

    def test_path_of_the_innermost_group(self):
        inner = (("x", "required", "int"), ("y", "required", "int"))
        schema = Schema((("g", "repeated", (("h", "repeated", inner), ("z", "required", "int"))),))
        whole = ((0, 2, 1), (2, 2, 2), (1, 1, None))
        less = ((0, 2, 1), (1, 1, None))
        short = ((0, 2, 1), (2, 2, 2))
        self.assert_problem(schema, (whole, whole, ((0, 1, 1), (1, 1, 2))), None)
        self.assert_problem(schema, (whole, less, None), ("pair", 0, 1, "g.h"))
        self.assert_problem(schema, (less, whole, ((0, 1, 1), (1, 1, 2))), ("pair", 0, 1, "g.h"))
        self.assert_problem(schema, (short, short, ((0, 1, 1), (1, 1, 2))), ("pair", 0, 2, "g"))
        self.assert_problem(schema, (None, short, ((0, 1, 1), (1, 1, 2))), ("pair", 1, 2, "g"))
        self.assert_problem(schema, (less, None, ((0, 1, 1), (1, 1, 2))), None)

    def test_levels_beyond_the_group_need_not_agree(self):
        """The lists x and y stand in no group but the whole record, so they may be of any lengths."""
        schema = Schema((("x", "repeated", "int"), ("y", "repeated", "int"), ("z", "optional", "int")))
        parts = (((0, 1, 1), (1, 1, 2), (0, 0, None)), ((0, 0, None), (0, 1, 3)), ((0, 1, 1), (0, 0, None)))
        self.assert_problem(schema, parts, None)

    def test_occurrence_of_an_optional_group(self):
        inner = (("x", "optional", "int"), ("y", "repeated", "int"), ("z", "required", "int"))
        schema = Schema((("g", "optional", inner),))
        empty, some = ((0, 0, None),), ((0, 1, None),)
        self.assert_problem(schema, (some, some, ((0, 1, 5),)), None)
        self.assert_problem(schema, (((0, 2, 5),), ((0, 2, 5), (1, 2, 6)), ((0, 1, 5),)), None)
        self.assert_problem(schema, (empty, empty, empty), None)
        self.assert_problem(schema, (some, empty, empty), ("pair", 0, 1, "g"))
        self.assert_problem(schema, (some, some, empty), ("pair", 0, 2, "g"))
        self.assert_problem(schema, (empty, empty, ((0, 1, 5),)), ("pair", 0, 2, "g"))

    def test_as_many_entries_but_in_other_records(self):
        inner = (("x", "required", "int"), ("y", "required", "int"))
        schema = Schema((("g", "repeated", inner),))
        first = ((0, 1, 1), (1, 1, 2), (0, 1, 3))
        second = ((0, 1, 1), (0, 1, 2), (1, 1, 3))
        self.assert_problem(schema, (first, first), None)
        self.assert_problem(schema, (first, second), ("pair", 0, 1, "g"))

    def test_largest_parts(self):
        schema = Schema(tuple([("f" + str(number), "required", "int") for number in range(12)]))
        column = ((0, 0, 1),) * 1000
        self.assert_problem(schema, (column,) * 12, None)
        self.assert_problem(schema, (column,) * 11 + (column[1:],), ("pair", 0, 11, ""))


if __name__ == "__main__":
    unittest.main()
