"""Asks: what is told of records from their columns alone (point 21)."""

from columnkin.columns import is_value
from columnkin.errors import NoSuchPath, WrongKind
from columnkin.records import check_whole, pieces
from columnkin.schemas import Schema, count_leaves


def picked(schema, columns, paths):
    """The schema that has just the leaves with these paths, and their columns."""
    check_whole(schema, columns)
    places = [schema.place_of(path) for path in paths]
    leaves = [leaf for leaf in range(len(schema)) if leaf in places]
    # Without paths no field is left, and a schema without fields raises BadSchema.
    smaller = Schema(fields_with(schema.fields, leaves, 0))
    return (smaller, tuple([columns[leaf] for leaf in leaves]))


def fields_with(fields, leaves, first):
    """The fields without all leaves but these; `first` is the number of the first leaf in the fields."""
    found = []
    for name, rule, kind in fields:
        behind = first + count_leaves(kind)
        if any([first <= leaf < behind for leaf in leaves]):
            found.append((name, rule, fields_with(kind, leaves, first) if type(kind) is tuple else kind))
        first = behind
    return tuple(found)


def counts(schema, columns, path):
    """For each record, how many occurrences the field with this path has in it."""
    check_whole(schema, columns)
    leaf, repetition, definition = field_at(schema, path)
    # The first entry of an occurrence goes back at most to the field, and reaches it; further ones go less far back.
    return [
        len([entry for entry in run if entry[0] <= repetition and entry[1] >= definition])
        for run in pieces(columns[leaf], 0)
    ]


def field_at(schema, path):
    """The first leaf in the field with this path, and the repetition and the definition level of the field."""
    for leaf, way in enumerate(schema.ways):
        # The whole record, which comes first, has a path, but is no field.
        for name, repetition, definition in way[1:]:
            if type(path) is str and name == path:
                return (leaf, repetition, definition)
    raise NoSuchPath("no field has this path")


def totals(schema, columns, path):
    """For each record, the sum of the values that the leaf with this path has in it."""
    check_whole(schema, columns)
    leaf = schema.place_of(path)
    if schema.leaves[leaf][1] != "int":
        raise WrongKind("only integers have a sum")
    return [sum(found) for found in values_by_record(columns[leaf])]


def holding(schema, columns, path, value):
    """The numbers of the records in which the leaf with this path has this value, ascending."""
    check_whole(schema, columns)
    leaf = schema.place_of(path)
    if not is_value(value, schema.leaves[leaf][1]):
        raise WrongKind("the value is none of the kind of the leaf")
    return [number for number, found in enumerate(values_by_record(columns[leaf])) if value in found]


def values_by_record(column):
    """For each record, the list of the values that a column has in it."""
    return [[entry[2] for entry in run if entry[2] is not None] for run in pieces(column, 0)]
