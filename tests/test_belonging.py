"""Point 10: columns belong to common records exactly if they are consistent."""

import itertools
import unittest

from columnkin.columns import validate
from columnkin.schemas import Schema
from plain import columns_of


def lists_of(items, most):
    """All lists of at most so many of the items."""
    for count in range(most + 1):
        for chosen in itertools.product(items, repeat=count):
            yield list(chosen)


def all_columns(most_repetition, most_definition, last, length):
    """All tuples of at most so many entries with levels up to these, and a value at the last definition level."""
    entries = [
        (repetition, definition, 1 if definition == last else None)
        for repetition in range(most_repetition + 1) for definition in range(most_definition + 1)
    ]
    for count in range(length + 1):
        yield from itertools.product(entries, repeat=count)


class BelongingTest(unittest.TestCase):
    def test_single_columns_three_deep(self):
        """Sound columns of at most four entries are just those that are written of records."""
        fields = (("g", "repeated", (("h", "optional", (("x", "repeated", "int"),)),)),)
        schema = Schema(fields)
        groups = [{"h": None}, *[{"h": {"x": [1] * count}} for count in range(4)]]
        records = [{"g": found} for found in lists_of(groups, 3)]
        written = {columns_of(schema, some) for some in lists_of([r for r in records if weight(r) <= 3], 3)}
        written = {columns for columns in written if len(columns[0]) <= 3}
        sound = {
            (column,) for column in all_columns(3, 3, 3, 3) if validate(schema, (column,)) is None
        }
        self.assertEqual(sound, written)
        self.assertGreater(len(written), 50)

    def test_pairs_of_columns(self):
        """Consistent columns are just those that are written of common records."""
        inner = (("a", "optional", "int"), ("b", "repeated", "int"))
        schema = Schema((("g", "repeated", inner),))
        groups = [{"a": a, "b": [1] * count} for a in (None, 1) for count in range(4)]
        records = [{"g": found} for found in lists_of(groups, 2)]
        written = {columns_of(schema, some) for some in lists_of(records, 2)}
        written = {columns for columns in written if len(columns[0]) <= 2 and len(columns[1]) <= 3}
        first = list(all_columns(1, 2, 2, 2))
        second = list(all_columns(2, 2, 2, 3))
        consistent = {
            (one_column, other) for one_column in first for other in second
            if validate(schema, (one_column, other)) is None
        }
        self.assertEqual(consistent, written)
        self.assertGreater(len(written), 50)


def weight(record):
    """How many entries a record of the first test has."""
    return max(1, sum([1 if group["h"] is None else max(1, len(group["h"]["x"])) for group in record["g"]]))


if __name__ == "__main__":
    unittest.main()
