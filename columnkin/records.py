"""Records: what they are, how columns are written of them, and how they are put together (points 6, 8 and 12)."""

from columnkin.columns import MOST_ENTRIES, is_value, validate
from columnkin.errors import BadRecord, Inconsistent, TooMany
from columnkin.schemas import count_leaves, levels_below

MOST_RECORDS = 100
MOST_OCCURRENCES = 100


def check_records(schema, records):
    """Raise BadRecord unless these are records of the schema."""
    if type(records) is not list or len(records) > MOST_RECORDS:
        raise BadRecord("records are a list of at most 100 records")
    for record in records:
        check_record(schema.fields, record)


def check_record(fields, record):
    """Raise BadRecord unless this is a record of the fields."""
    if type(record) is not dict or not has_just_names(fields, record):
        raise BadRecord("a record is a dict with just the names of its fields, in their order")
    for name, rule, kind in fields:
        for occurrence in occurrences_of(rule, record[name]):
            check_occurrence(kind, occurrence)


def has_just_names(fields, record):
    """True if the keys of a dict are just the names of the fields, in their order."""
    # Keys that are no texts could equal a name all the same, so they are told apart first.
    if not all([type(key) is str for key in record]):
        return False
    return list(record) == [field[0] for field in fields]


def occurrences_of(rule, content):
    """The occurrences of a field with this rule, from what a record holds for it."""
    if rule == "required":
        return [content]
    if rule == "optional":
        return [] if content is None else [content]
    if type(content) is not list or len(content) > MOST_OCCURRENCES:
        raise BadRecord("a repeated field has a list of at most 100 occurrences")
    return content


def check_occurrence(kind, occurrence):
    """Raise BadRecord unless this is an occurrence of a field of this kind."""
    if type(kind) is tuple:
        check_record(kind, occurrence)
    elif not is_value(occurrence, kind):
        raise BadRecord("an occurrence of a leaf is a value of its kind")


def shred(schema, records):
    """The tuple of the columns of records."""
    check_records(schema, records)
    columns = [[] for leaf in schema.leaves]
    for record in records:
        write_record(schema.fields, record, (0, 0, 0), 0, columns)
    return tuple([tuple(column) for column in columns])


def write_record(fields, record, levels, first, columns):
    """Write a record with the numbers r, k and d of point 8; `first` is the number of the first leaf in it."""
    repetition, group_repetition, group_definition = levels
    for name, rule, kind in fields:
        behind = first + count_leaves(kind)
        occurrences = occurrences_of(rule, record[name])
        if len(occurrences) == 0:
            for leaf in range(first, behind):
                add_entry(columns[leaf], (repetition, group_definition, None))
        below = levels_below(group_repetition, group_definition, rule)
        for number, occurrence in enumerate(occurrences):
            level = repetition if number == 0 else below[0]
            write_occurrence(kind, occurrence, (level, *below), first, columns)
        first = behind


def write_occurrence(kind, occurrence, levels, first, columns):
    """Write an occurrence of a field with the numbers s, k' and d' of point 8."""
    if type(kind) is tuple:
        write_record(kind, occurrence, levels, first, columns)
    else:
        add_entry(columns[first], (levels[0], levels[2], occurrence))


def add_entry(column, entry):
    """Add an entry to a list of entries; TooMany if there would be more than a column may have."""
    if len(column) == MOST_ENTRIES:
        raise TooMany("a column would have more than 1000 entries")
    column.append(entry)


def assemble(schema, columns):
    """The list of the records to which the columns belong."""
    check_whole(schema, columns)
    cut = [pieces(column, 0) for column in columns]
    return [record_from(schema.fields, runs, (0, 0)) for runs in zip(*cut)]


def check_whole(schema, columns):
    """Raise BadParts, or Inconsistent if a column is missing or there is a problem."""
    if validate(schema, columns) is not None:
        raise Inconsistent("the columns do not belong to common records")
    if any([column is None for column in columns]):
        raise Inconsistent("a column is missing")


def pieces(entries, repetition):
    """The entries, cut ahead of each one with a repetition level of at most this; the first one has such a level."""
    cut = []
    for entry in entries:
        if entry[0] <= repetition:
            cut.append([])
        cut[-1].append(entry)
    return cut


def record_from(fields, runs, levels):
    """The record that is one occurrence of a group with these levels; `runs` has the entries of each leaf in it."""
    record = {}
    first = 0
    for name, rule, kind in fields:
        behind = first + count_leaves(kind)
        record[name] = content_from(rule, kind, runs[first:behind], levels)
        first = behind
    return record


def content_from(rule, kind, runs, levels):
    """What a record of a group with these levels holds for a field; `runs` has the entries of each leaf in it."""
    repetition, definition = levels_below(levels[0], levels[1], rule)
    # All leaves in a field without an occurrence have one entry, with the definition level of the group.
    if runs[0][0][1] < definition:
        return None if rule == "optional" else []
    if rule != "repeated":
        return occurrence_from(kind, runs, (repetition, definition))
    cut = [pieces(run, repetition) for run in runs]
    return [occurrence_from(kind, parts, (repetition, definition)) for parts in zip(*cut)]


def occurrence_from(kind, runs, levels):
    """One occurrence of a field with these levels."""
    if type(kind) is tuple:
        return record_from(kind, runs, levels)
    return runs[0][0][2]
