"""Columns: what they consist of, and which of them belong to common records (points 7 and 9 to 11)."""

from columnkin.errors import BadParts
from columnkin.schemas import KINDS, common_group, start_of

SIGNS = "abcdefghijklmnopqrstuvwxyzABCDEFGHIJKLMNOPQRSTUVWXYZ0123456789 .,;:!?-_@/()"
LONGEST_TEXT = 100
LEAST_INTEGER = -2147483648
GREATEST_INTEGER = 2147483647
GREATEST_LEVEL = 3
MOST_ENTRIES = 1000


def is_value(value, kind):
    """True if a value is one of a kind of leaves."""
    if kind == "int":
        return type(value) is int and LEAST_INTEGER <= value <= GREATEST_INTEGER
    if kind == "text":
        return type(value) is str and len(value) <= LONGEST_TEXT and all([sign in SIGNS for sign in value])
    return kind == "flag" and type(value) is bool


def check_parts(schema, parts):
    """Raise BadParts unless these are parts of the schema."""
    if type(parts) is not tuple or len(parts) != len(schema):
        raise BadParts("parts are a tuple with a column or None for each leaf")
    for column in parts:
        if column is not None and not is_column(column):
            raise BadParts("a column is a tuple of at most 1000 entries")


def is_column(column):
    """True if a value is a column, be it sound or not."""
    if type(column) is not tuple or len(column) > MOST_ENTRIES:
        return False
    return all([is_entry(entry) for entry in column])


def is_entry(entry):
    """True if a value is an entry, be it admissible or not."""
    if type(entry) is not tuple or len(entry) != 3:
        return False
    repetition, definition, value = entry
    if not is_level(repetition) or not is_level(definition):
        return False
    return value is None or any([is_value(value, kind) for kind in KINDS])


def is_level(level):
    """True if a value is a level of an entry."""
    return type(level) is int and 0 <= level <= GREATEST_LEVEL


def is_admissible(schema, leaf, column, index):
    """True if the column has an entry with this index that is admissible in a column of the leaf."""
    if not 0 <= index < len(column) or not is_entry(column[index]):
        return False
    path, kind, most_repetition, most_definition = schema.leaves[leaf]
    repetition, definition, value = column[index]
    if repetition > most_repetition or definition > most_definition:
        return False
    if definition < most_definition and value is not None:
        return False
    if definition == most_definition and not is_value(value, kind):
        return False
    return repetition == 0 or continues_list(schema, leaf, column, index)


def continues_list(schema, leaf, column, index):
    """True if an entry and the one ahead of it lie in the repeated field that its repetition level names."""
    start = start_of(schema, leaf, column[index][0])
    return index > 0 and column[index - 1][1] >= start and column[index][1] >= start


def first_fault(schema, leaf, column):
    """The index of the first entry that is not admissible, or None."""
    for index in range(len(column)):
        if not is_admissible(schema, leaf, column, index):
            return index
    return None


def has_sound(schema, parts, leaf):
    """True if the column of a leaf is there and sound."""
    return parts[leaf] is not None and first_fault(schema, leaf, parts[leaf]) is None


def skeleton(column, repetition, definition):
    """The skeleton of a column at a group with these levels."""
    return tuple([(entry[0], min(entry[1], definition)) for entry in column if entry[0] <= repetition])


def validate(schema, parts):
    """The first problem of parts, or None."""
    check_parts(schema, parts)
    present = [leaf for leaf in range(len(parts)) if parts[leaf] is not None]
    for leaf in present:
        index = first_fault(schema, leaf, parts[leaf])
        if index is not None:
            return ("entry", leaf, index)
    for first in present:
        for second in present:
            if first < second and not columns_fit(schema, parts, first, second):
                return ("pair", first, second, common_group(schema, first, second)[0])
    return None


def columns_fit(schema, parts, first, second):
    """True if the columns of two different leaves, which are there and sound, fit."""
    one, other = skeletons_of(schema, parts, first, second)
    return one == other


def skeletons_of(schema, parts, first, second):
    """The skeletons of the columns of two different leaves at the innermost group of both."""
    path, repetition, definition = common_group(schema, first, second)
    return (skeleton(parts[first], repetition, definition), skeleton(parts[second], repetition, definition))
