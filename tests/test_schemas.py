"""Points 4 and 5: what a schema is, its paths and levels, and the innermost group of two leaves."""

import copy
import itertools
import unittest

from columnkin.errors import BadSchema, KinError, NoSuchPath
from columnkin.schemas import Schema, common_group

LEAF = ("a", "required", "int")
RULES = ("required", "optional", "repeated")
KINDS = ("int", "text", "flag")

AUTHOR = (("name", "required", "text"), ("mails", "repeated", "text"))
BOOK = (
    ("id", "required", "int"),
    ("authors", "repeated", AUTHOR),
    ("print", "optional", (("city", "optional", "text"),)),
)

NO_TEXTS = (None, True, False, 0, 1, 1.0, b"a", b"int", [], ["a"], ("a",), {}, {"a": 1}, {"a"}, object(), int, len)


def many(count):
    """So many fields that are leaves."""
    return tuple([("f" + str(number), "required", "int") for number in range(count)])


def within(fields, depth):
    """The fields, within so many groups."""
    for _ in range(depth):
        fields = (("g", "optional", fields),)
    return fields


class Schemas(unittest.TestCase):
    def assert_taken(self, fields):
        """The fields are taken, and kept as given."""
        schema = Schema(fields)
        self.assertIs(schema.fields, fields)
        return schema

    def assert_refused(self, fields):
        with self.assertRaises(BadSchema):
            Schema(fields)

    def assert_bad_fields(self, fields):
        """These are not the fields of a schema, and not those of a group either."""
        for depth in range(3):
            with self.subTest(fields=fields, depth=depth):
                self.assert_refused(within(fields, depth))
        with self.subTest(fields=fields, beside="other fields"):
            self.assert_refused((LEAF, ("g", "repeated", fields), ("z", "optional", "flag")))

    def assert_bad_field(self, field):
        self.assert_bad_fields((field,))
        self.assert_bad_fields((("b", "required", "int"), field))
        self.assert_bad_fields((field, ("b", "required", "int")))


class TakenTest(Schemas):
    def test_every_rule_and_kind(self):
        for rule, kind in itertools.product(RULES, KINDS):
            with self.subTest(rule=rule, kind=kind):
                self.assert_taken((("a", rule, kind),))
                self.assert_taken((("a", rule, (("b", rule, kind),)),))

    def test_names(self):
        for name in ("a", "z", "m", "a0", "z9", "a_", "a__", "int", "required", "abcdefghij", "a123456789", "a_________"):
            with self.subTest(name=name):
                schema = self.assert_taken(((name, "required", "int"),))
                self.assertEqual(schema.leaves[0][0], name)

    def test_every_sign_of_names(self):
        for sign in "abcdefghijklmnopqrstuvwxyz":
            self.assert_taken(((sign, "required", "int"),))
        for sign in "abcdefghijklmnopqrstuvwxyz0123456789_":
            self.assert_taken((("x" + sign, "required", "int"),))

    def test_same_name_in_different_tuples(self):
        inner = (("a", "required", "int"), ("b", "required", "int"))
        schema = self.assert_taken((("a", "optional", inner), ("b", "optional", inner), ("c", "required", "int")))
        self.assertEqual([leaf[0] for leaf in schema.leaves], ["a.a", "a.b", "b.a", "b.b", "c"])

    def test_three_deep(self):
        for depth in range(3):
            with self.subTest(depth=depth):
                schema = self.assert_taken(within((LEAF,), depth))
                self.assertEqual(len(schema), 1)

    def test_twelve_leaves(self):
        self.assertEqual(len(self.assert_taken(many(12))), 12)
        self.assertEqual(len(self.assert_taken(within(many(12), 2))), 12)
        four = many(4)
        parted = (("g", "repeated", four), ("h", "optional", four), ("i", "required", (("j", "optional", four),)))
        self.assertEqual(len(self.assert_taken(parted)), 12)

    def test_groups_are_no_leaves(self):
        groups = tuple([("g" + str(number), "repeated", within((LEAF,), 1)) for number in range(12)])
        self.assertEqual(len(self.assert_taken(groups)), 12)


class RefusedTest(Schemas):
    def test_no_tuple_of_fields(self):
        for fields in (
            None, True, False, 0, 1, 2.5, "", "abc", "int", b"", [], [LEAF], {}, {"a": 1}, set(), {LEAF}, object(),
            Schema, len, list(BOOK), iter(BOOK),
        ):
            with self.subTest(fields=fields):
                self.assert_refused(fields)

    def test_schema_is_no_fields(self):
        self.assert_refused(Schema(BOOK))

    def test_no_group(self):
        for kind in (None, True, False, 0, 1, 2.5, "", b"int", [], [LEAF], {}, {"a": 1}, object(), Schema((LEAF,))):
            with self.subTest(kind=kind):
                self.assert_bad_field(("a", "required", kind))

    def test_empty_tuple(self):
        self.assert_bad_fields(())

    def test_field_itself_instead_of_a_tuple_of_it(self):
        self.assert_bad_fields(LEAF)

    def test_no_field(self):
        for field in (
            None, 0, 1, True, "a", "abc", b"abc", [], ["a", "required", "int"], {}, {"a": 1, "b": 2, "c": 3}, object(),
            (), ("a",), ("a", "required"), ("a", "required", "int", None), ("a", "required", "int", "int"),
            (("a", "required", "int"),), ("required", "a", "int"), ("int", "a", "required"),
        ):
            with self.subTest(field=field):
                self.assert_bad_field(field)

    def test_no_name(self):
        for name in (
            "", "abcdefghijk", "a1234567890", "a" * 1000, "A", "Ab", "0", "0a", "9", "_", "_a", " ", " a", ".", "-a",
            "aB", "a b", "a.b", "a-b", "a:", "a ", "a\n", "a\x00", "\na", "a,b", "a/b",
            "\u00e4", "a\u00e4", "\u00df", "a\u00b2", "a\u0661", "\u0430", "a\uff41", "a\U0001f600",
        ):
            with self.subTest(name=name):
                self.assert_bad_field((name, "required", "int"))
                self.assert_bad_field((name, "required", (LEAF,)))

    def test_every_other_sign_in_names(self):
        for number in range(256):
            sign = chr(number)
            if sign not in "abcdefghijklmnopqrstuvwxyz":
                self.assert_refused(((sign, "required", "int"),))
                self.assert_refused(((sign + "a", "required", "int"),))
            if sign not in "abcdefghijklmnopqrstuvwxyz0123456789_":
                self.assert_refused((("a" + sign, "required", "int"),))
                self.assert_refused((("a" + sign + "b", "required", "int"),))

    def test_name_no_text(self):
        for name in NO_TEXTS:
            with self.subTest(name=name):
                self.assert_bad_field((name, "required", "int"))

    def test_same_name_twice(self):
        self.assert_bad_fields((LEAF, LEAF))
        self.assert_bad_fields((LEAF, ("b", "required", "int"), ("a", "repeated", "text")))
        self.assert_bad_fields((LEAF, ("b", "required", "int"), ("b", "required", "int")))
        self.assert_bad_fields((("a", "optional", "int"), ("a", "optional", (("b", "required", "int"),))))
        self.assert_bad_fields((("a", "optional", (LEAF,)), ("a", "required", (("b", "required", "int"),))))

    def test_no_rule(self):
        for rule in ("", "require", "Required", "requiredoptional", "required ", "many", "int", "r", "optionally"):
            with self.subTest(rule=rule):
                self.assert_bad_field(("a", rule, "int"))
        for rule in NO_TEXTS:
            with self.subTest(rule=rule):
                self.assert_bad_field(("a", rule, "int"))
                self.assert_bad_field(("a", rule, (LEAF,)))

    def test_no_kind(self):
        for kind in ("", "in", "Int", "integer", "inttext", "bool", "float", "text ", "flags", "group", "optional", "t"):
            with self.subTest(kind=kind):
                self.assert_bad_field(("a", "required", kind))

    def test_too_deep(self):
        for depth in (3, 4, 5, 10):
            with self.subTest(depth=depth):
                self.assert_refused(within((LEAF,), depth))
                self.assert_refused((("b", "required", "int"), ("h", "required", within((LEAF,), depth - 1))))

    def test_far_too_deep(self):
        self.assert_refused(within((LEAF,), 50))

    def test_too_many_leaves(self):
        self.assert_refused(many(13))
        self.assert_refused(within(many(13), 1))
        self.assert_refused(within(many(13), 2))
        self.assert_refused((*many(12), ("g", "required", (LEAF,))))
        self.assert_refused((("g", "required", many(7)), ("h", "required", many(6))))
        self.assert_refused((("g", "required", (("i", "required", many(7)), ("j", "required", many(6)))),))
        self.assert_refused(many(1000))

    def test_far_too_many_leaves(self):
        fields = many(20)
        for _ in range(2):
            fields = tuple([("g" + str(number), "required", fields) for number in range(20)])
        self.assert_refused(fields)

    def test_arguments_stay_as_they_are(self):
        for fields in ([LEAF], [["a", "required", ["int"]]], (["a", "required", "int"],), {"a": ["int"]}):
            before = copy.deepcopy(fields)
            self.assert_refused(fields)
            self.assertEqual(fields, before)

    def test_refusal_is_a_kin_error(self):
        with self.assertRaises(KinError):
            Schema(())


class LevelsTest(unittest.TestCase):
    def test_leaves_of_a_book(self):
        self.assertEqual(Schema(BOOK).leaves, (
            ("id", "int", 0, 0),
            ("authors.name", "text", 1, 1),
            ("authors.mails", "text", 2, 2),
            ("print.city", "text", 0, 2),
        ))

    def test_fields_are_as_given(self):
        schema = Schema(BOOK)
        self.assertIs(schema.fields, BOOK)
        self.assertIs(type(schema.leaves), tuple)
        self.assertTrue(all(type(leaf) is tuple for leaf in schema.leaves))

    def test_order_is_the_one_in_which_leaves_are_written(self):
        schema = Schema((
            ("z", "required", "flag"),
            ("g", "required", (("y", "required", "int"), ("h", "required", (("x", "required", "text"),)), LEAF)),
            ("b", "required", "int"),
        ))
        self.assertEqual([leaf[:2] for leaf in schema.leaves], [
            ("z", "flag"), ("g.y", "int"), ("g.h.x", "text"), ("g.a", "int"), ("b", "int"),
        ])

    def test_levels_for_all_rules_three_deep(self):
        for rules in itertools.product(RULES, repeat=3):
            with self.subTest(rules=rules):
                outer, inner, last = rules
                schema = Schema((("g", outer, (("h", inner, (("x", last, "text"),)),)),))
                repetition = rules.count("repeated")
                definition = repetition + rules.count("optional")
                self.assertEqual(schema.leaves, (("g.h.x", "text", repetition, definition),))

    def test_fields_beside_the_way_do_not_count(self):
        schema = Schema((
            ("a", "repeated", "int"),
            ("g", "optional", (("b", "repeated", "int"), ("c", "required", "flag"))),
            ("d", "required", "int"),
        ))
        self.assertEqual(schema.leaves, (
            ("a", "int", 1, 1), ("g.b", "int", 1, 2), ("g.c", "flag", 0, 1), ("d", "int", 0, 0),
        ))


class EqualityTest(unittest.TestCase):
    def test_equal_fields(self):
        same = (
            ("id", "required", "int"),
            ("authors", "repeated", (("name", "required", "text"), ("mails", "repeated", "text"))),
            ("print", "optional", (("city", "optional", "text"),)),
        )
        self.assertIs(Schema(BOOK) == Schema(same), True)
        self.assertIs(Schema(BOOK) != Schema(same), False)

    def test_other_fields(self):
        schema = Schema((LEAF, ("b", "optional", "text")))
        for fields in (
            (LEAF,),
            (("b", "optional", "text"), LEAF),
            (LEAF, ("c", "optional", "text")),
            (LEAF, ("b", "required", "text")),
            (LEAF, ("b", "optional", "int")),
            (LEAF, ("b", "optional", "text"), ("c", "optional", "text")),
        ):
            with self.subTest(fields=fields):
                self.assertIs(schema == Schema(fields), False)
                self.assertIs(schema != Schema(fields), True)

    def test_same_leaves_but_other_fields(self):
        first = Schema((("g", "required", (("h", "optional", (LEAF,)),)),))
        second = Schema((("g", "optional", (("h", "required", (LEAF,)),)),))
        self.assertEqual(first.leaves, second.leaves)
        self.assertIs(first == second, False)

    def test_anything_else(self):
        schema = Schema(BOOK)
        for other in (None, True, 0, 4, "", "schema", BOOK, list(BOOK), schema.leaves, {}, object(), Schema):
            with self.subTest(other=other):
                self.assertIs(schema == other, False)
                self.assertIs(schema != other, True)

    def test_lengths(self):
        self.assertEqual(len(Schema(BOOK)), 4)
        for count in range(1, 13):
            self.assertEqual(len(Schema(many(count))), count)
            self.assertEqual(len(Schema(within(many(count), 2))), count)


class PlaceTest(unittest.TestCase):
    def test_places_of_leaves(self):
        schema = Schema(BOOK)
        paths = ["id", "authors.name", "authors.mails", "print.city"]
        self.assertEqual([schema.place_of(path) for path in paths], [0, 1, 2, 3])

    def test_no_leaf(self):
        schema = Schema((*BOOK, ("g", "required", (("h", "required", (LEAF,)),))))
        for path in (
            "", "authors", "print", "g", "g.h", "name", "city", "a", "h.a", "g.a", "ID", "id ", " id", "id.", ".id",
            "id.id", "authors.", "authors..name", "authors.name.", "authors/name", "print.name", "authors.city",
            "authors.name.mails", "i", "d", "x", "int", "id,authors.name", "id\n",
        ):
            with self.subTest(path=path), self.assertRaises(NoSuchPath):
                schema.place_of(path)

    def test_no_text(self):
        schema = Schema(BOOK)
        for path in (*NO_TEXTS, ("id",), ["id"], ("authors", "name"), b"id", schema.leaves[0], LEAF, schema):
            with self.subTest(path=path), self.assertRaises(NoSuchPath):
                schema.place_of(path)

    def test_refusal_changes_nothing(self):
        schema = Schema(BOOK)
        leaves = schema.leaves
        with self.assertRaises(NoSuchPath):
            schema.place_of("authors")
        self.assertEqual((schema.fields, schema.leaves), (BOOK, leaves))
        self.assertEqual(schema.place_of("print.city"), 3)


class CommonGroupTest(unittest.TestCase):
    def assert_common(self, schema, first, second, group):
        places = schema.place_of(first), schema.place_of(second)
        with self.subTest(first=first, second=second):
            self.assertEqual(common_group(schema, places[0], places[1]), group)
            self.assertEqual(common_group(schema, places[1], places[0]), group)

    def test_book(self):
        schema = Schema(BOOK)
        self.assert_common(schema, "authors.name", "authors.mails", ("authors", 1, 1))
        for first, second in (
            ("id", "authors.name"), ("id", "authors.mails"), ("id", "print.city"), ("authors.name", "print.city"),
            ("authors.mails", "print.city"),
        ):
            self.assert_common(schema, first, second, ("", 0, 0))

    def test_levels_for_all_rules(self):
        leaves = (("x", "repeated", "int"), ("y", "optional", "int"))
        for outer, inner in itertools.product(RULES, repeat=2):
            schema = Schema((
                ("g", outer, (("h", inner, leaves), ("z", "repeated", "int"))), ("w", "optional", "int"),
            ))
            at_g = ("g", int(outer == "repeated"), int(outer != "required"))
            at_h = ("g.h", at_g[1] + int(inner == "repeated"), at_g[2] + int(inner != "required"))
            with self.subTest(outer=outer, inner=inner):
                self.assert_common(schema, "g.h.x", "g.h.y", at_h)
                self.assert_common(schema, "g.h.x", "g.z", at_g)
                self.assert_common(schema, "g.h.y", "g.z", at_g)
                self.assert_common(schema, "g.h.x", "w", ("", 0, 0))
                self.assert_common(schema, "g.z", "w", ("", 0, 0))

    def test_fields_of_a_group_beside_leaves_of_its_groups(self):
        schema = Schema((("g", "repeated", (("a", "required", "int"), ("h", "repeated", (LEAF,)))),))
        self.assert_common(schema, "g.a", "g.h.a", ("g", 1, 1))

    def test_names_that_begin_alike(self):
        leaf = (("x", "required", "int"),)
        schema = Schema((("g", "repeated", leaf), ("gh", "repeated", leaf), ("g_", "repeated", leaf)))
        self.assert_common(schema, "g.x", "gh.x", ("", 0, 0))
        self.assert_common(schema, "g.x", "g_.x", ("", 0, 0))

    def test_same_names_in_different_groups(self):
        inner = (("h", "repeated", (LEAF, ("b", "required", "int"))),)
        schema = Schema((("p", "repeated", inner), ("q", "repeated", inner)))
        self.assert_common(schema, "p.h.a", "q.h.a", ("", 0, 0))
        self.assert_common(schema, "p.h.a", "p.h.b", ("p.h", 2, 2))

    def test_group_named_like_a_leaf(self):
        schema = Schema((("a", "optional", (LEAF, ("b", "optional", (LEAF,)))), ("b", "required", "int")))
        self.assert_common(schema, "a.a", "a.b.a", ("a", 0, 1))
        self.assert_common(schema, "a.b.a", "b", ("", 0, 0))


if __name__ == "__main__":
    unittest.main()
