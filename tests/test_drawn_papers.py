"""Points 9, 10, 11 and 20 over drawn schemas and drawn parts: columns of several records, missing ones, turned entries."""

import itertools
import unittest

from columnkin.columns import is_admissible, validate
from columnkin.papers import judge, paper_for
from columnkin.records import assemble
from columnkin.repair import complete, salvage
from plain import columns_of, damaged, draws, drawn_records, drawn_schema, only, with_losses


def drawn_parts(source, schema):
    """Parts of each sort: of records, of some of their columns, damaged ones, and of these what belongs together."""
    columns = columns_of(schema, drawn_records(source, schema, 4))
    parts = damaged(source, schema)
    return (columns, with_losses(source, columns), parts, only(parts, salvage(schema, parts)))


def common_levels(schema, first, second):
    """The levels of the innermost group of two leaves, by the rules on the ways of both."""
    levels, fields = (0, 0), schema.fields
    for name, other in zip(*[schema.leaves[leaf][0].split(".") for leaf in (first, second)]):
        if name != other:
            break
        rule, fields = [field[1:] for field in fields if field[0] == name][0]
        levels = (levels[0] + (rule == "repeated"), levels[1] + (rule != "required"))
    return levels


def unlike_at(schema, parts, first, second):
    """The indices at which the skeletons of the columns of two leaves differ."""
    repetition, definition = common_levels(schema, first, second)
    skeletons = [
        [(entry[0], min(entry[1], definition)) for entry in parts[leaf] if entry[0] <= repetition]
        for leaf in (first, second)
    ]
    return [index for index, pair in enumerate(itertools.zip_longest(*skeletons)) if pair[0] != pair[1]]


class DrawnPapersTest(unittest.TestCase):
    def test_paper_for_gives_a_paper_that_is_taken(self):
        words = []
        for source in draws(300):
            schema = drawn_schema(source)
            for parts in drawn_parts(source, schema):
                paper = paper_for(schema, parts)
                self.assertIs(judge(schema, parts, paper), True)
                problem = validate(schema, parts)
                self.assertEqual(paper[0], "records" if problem is None else problem[0])
                words.append(paper[0])
        for word in ("records", "entry", "pair"):
            self.assertGreater(words.count(word), 50)

    def test_records(self):
        """They are taken just if the columns that are there are written of them."""
        taken = []
        for source in draws(200):
            schema = drawn_schema(source)
            first, second = drawn_records(source, schema), drawn_records(source, schema, 1)
            columns = columns_of(schema, first)
            for parts in (columns, with_losses(source, columns), *drawn_parts(source, schema)):
                completed = assemble(schema, complete(schema, only(parts, salvage(schema, parts))))
                for records in (first, second, completed, [], first[::-1], first[:-1], first + second):
                    written = columns_of(schema, records)
                    right = all([
                        column is None or repr(column) == repr(other) for column, other in zip(parts, written)
                    ])
                    self.assertIs(judge(schema, parts, ("records", records)), right)
                    if right:
                        self.assertIs(validate(schema, parts), None)
                    taken.append(right)
        self.assertGreater(taken.count(True), 200)
        self.assertGreater(taken.count(False), 200)

    def test_entries(self):
        """Each index is judged, and just those of entries that are not admissible are taken."""
        for source in draws(200):
            schema = drawn_schema(source)
            for parts in drawn_parts(source, schema):
                found = []
                for leaf, column in enumerate(parts):
                    for index in range(-2, len(column or ()) + 2):
                        if judge(schema, parts, ("entry", leaf, index)):
                            found.append((leaf, index))
                self.assertEqual(found, [
                    (leaf, index) for leaf, column in enumerate(parts) for index in range(len(column or ()))
                    if not is_admissible(schema, leaf, column, index)
                ])
                problem = validate(schema, parts)
                if problem is None or problem[0] == "pair":
                    self.assertEqual(found, [])
                else:
                    self.assertEqual(found[0], problem[1:])

    def test_pairs(self):
        """Each index is judged, and just those at which the skeletons of sound columns differ are taken."""
        for source in draws(80):
            schema = drawn_schema(source)
            for parts in drawn_parts(source, schema):
                sound = [
                    leaf for leaf, column in enumerate(parts)
                    if column is not None and validate(schema, only(parts, [leaf])) is None
                ]
                unlike = False
                for first, second in itertools.product(range(len(schema)), repeat=2):
                    length = max(len(parts[first] or ()), len(parts[second] or ()))
                    found = [
                        index for index in range(-1, length + 2)
                        if judge(schema, parts, ("pair", first, second, index))
                    ]
                    if first != second and first in sound and second in sound:
                        self.assertEqual(found, unlike_at(schema, parts, first, second))
                    else:
                        self.assertEqual(found, [])
                    unlike = unlike or len(found) > 0
                problem = validate(schema, parts)
                if problem is None:
                    self.assertIs(unlike, False)
                elif problem[0] == "pair":
                    self.assertIs(unlike, True)


if __name__ == "__main__":
    unittest.main()
