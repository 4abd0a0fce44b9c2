"""What several tests need: columns written in another way than the program does it, and drawn schemas and records."""

import random

from columnkin.schemas import Schema

SIGNS = "abcdefghijklmnopqrstuvwxyzABCDEFGHIJKLMNOPQRSTUVWXYZ0123456789 .,;:!?-_@/()"
RULES = ("required", "optional", "repeated")
KINDS = ("int", "text", "flag")


def write(fields, record, levels, path, columns):
    """Write a record of fields to the columns as point 8 tells it."""
    repetition, depth, definition = levels
    for name, rule, kind in fields:
        below = path + (name,)
        next_depth = depth + (rule == "repeated")
        next_definition = definition + (rule != "required")
        occurrences = {
            "required": lambda value: [value],
            "optional": lambda value: [] if value is None else [value],
            "repeated": lambda value: value,
        }[rule](record[name])
        if not occurrences:
            for leaf in columns:
                if leaf[:len(below)] == below:
                    columns[leaf].append((repetition, definition, None))
        for number, occurrence in enumerate(occurrences):
            at = next_depth if number else repetition
            if isinstance(kind, tuple):
                write(kind, occurrence, (at, next_depth, next_definition), below, columns)
            else:
                columns[below].append((at, next_definition, occurrence))


def columns_of(schema, records):
    """The columns of records."""
    columns = {tuple(leaf[0].split(".")): [] for leaf in schema.leaves}
    for record in records:
        write(schema.fields, record, (0, 0, 0), (), columns)
    return tuple([tuple(column) for column in columns.values()])


def draws(count):
    """So many sources of random numbers, the same ones in each run."""
    return [random.Random(seed) for seed in range(count)]


def drawn_schema(source):
    """A schema of 1 to 12 leaves, nested up to three deep."""
    return Schema(drawn_fields(source, 3, source.randint(1, 12)))


def drawn_fields(source, depth, leaves):
    """Fields with just so many leaves."""
    fields = []
    while leaves > 0:
        rule = source.choice(RULES)
        name = source.choice("abcdefgh") + str(len(fields)) + source.choice(("", "_", "x"))
        if depth > 1 and source.random() < 0.5:
            inside = source.randint(1, leaves)
            fields.append((name, rule, drawn_fields(source, depth - 1, inside)))
            leaves -= inside
        else:
            fields.append((name, rule, source.choice(KINDS)))
            leaves -= 1
    return tuple(fields)


def drawn_records(source, schema, most=5):
    """At most so many records of a schema."""
    return [drawn_record(source, schema.fields) for _ in range(source.randint(0, most))]


def drawn_record(source, fields):
    record = {}
    for name, rule, kind in fields:
        count = {"required": 1, "optional": source.randint(0, 1), "repeated": source.choice((0, 0, 1, 2, 3))}[rule]
        found = [
            drawn_record(source, kind) if isinstance(kind, tuple) else drawn_value(source, kind) for _ in range(count)
        ]
        record[name] = found if rule == "repeated" else found[0] if found else None
    return record


def drawn_value(source, kind):
    if kind == "int":
        return source.choice((0, 1, -1, 63, 64, -64, -65, 2147483647, -2147483648, source.randint(-10 ** 6, 10 ** 6)))
    if kind == "flag":
        return source.choice((True, False))
    return "".join(source.choices(SIGNS, k=source.choice((0, 1, 2, 3, 100))))


def drawn_columns(source, schema):
    """The columns of drawn records."""
    return columns_of(schema, drawn_records(source, schema, 4))


def with_losses(source, columns):
    """The columns, some of them missing."""
    share = source.choice((0.1, 0.5, 0.9, 1))
    return tuple([None if source.random() < share else column for column in columns])


def damaged(source, schema):
    """Parts with columns of three sets of records, some of them missing, with another entry or with two turned."""
    sets = [drawn_columns(source, schema) for _ in range(3)]
    parts = []
    for leaf in range(len(schema)):
        column = list(source.choice((sets[0], sets[0], sets[1], sets[2]))[leaf])
        if column and source.random() < 0.2:
            column[source.randrange(len(column))] = source.choice(((0, 0, None), (1, 1, None), (0, 1, 5), (3, 3, True)))
        if len(column) > 1 and source.random() < 0.2:
            at = source.randrange(len(column) - 1)
            column[at:at + 2] = column[at + 1], column[at]
        parts.append(None if source.random() < 0.1 else tuple(column))
    return tuple(parts)


def only(parts, leaves):
    """The parts, those of all other leaves missing."""
    return tuple([parts[leaf] if leaf in leaves else None for leaf in range(len(parts))])


def found_in(fields, record, path):
    """All occurrences that the field with this path, a list of names, has in a record."""
    for name, rule, kind in fields:
        if name == path[0]:
            content = record[name]
            here = content if rule == "repeated" else [] if content is None else [content]
            if len(path) == 1:
                return here
            return [found for occurrence in here for found in found_in(kind, occurrence, path[1:])]
    raise KeyError(path)


def paths_of(fields, above=""):
    """The pairs (path, kind) of all fields, groups too."""
    found = []
    for name, rule, kind in fields:
        found.append((above + name, kind))
        if isinstance(kind, tuple):
            found.extend(paths_of(kind, above + name + "."))
    return found


def fields_of(fields, paths, above=""):
    """The fields without all leaves but those with these paths."""
    found = []
    for name, rule, kind in fields:
        if isinstance(kind, tuple):
            inside = fields_of(kind, paths, above + name + ".")
            if inside:
                found.append((name, rule, inside))
        elif above + name in paths:
            found.append((name, rule, kind))
    return tuple(found)


def with_fields(fields, record):
    """A record with just these fields: its own ones, and for others what has the fewest entries in columns."""
    return {name: content_of(rule, kind, record[name]) if name in record else nothing_of(rule, kind)
            for name, rule, kind in fields}


def content_of(rule, kind, content):
    """What a record holds for a field, cut or filled up to the fields of the kind."""
    if not isinstance(kind, tuple) or content is None:
        return content
    if rule == "repeated":
        return [with_fields(kind, occurrence) for occurrence in content]
    return with_fields(kind, content)


def nothing_of(rule, kind):
    """What is made up for a field."""
    if rule != "required":
        return {"optional": None, "repeated": []}[rule]
    return with_fields(kind, {}) if isinstance(kind, tuple) else {"int": 0, "text": "", "flag": False}[kind]


def with_further_fields(source, fields, room, depth=1):
    """The fields, further ones among them at any depth, in another order, with at most so many leaves more."""
    grown = []
    for name, rule, kind in fields:
        if isinstance(kind, tuple):
            inside = with_further_fields(source, kind, source.randint(0, room), depth + 1)
            room -= leaf_count(inside) - leaf_count(kind)
            kind = inside
        grown.append((name, rule, kind))
    while room > 0 and source.random() < 0.6:
        names = [field[0] for field in grown]
        name = [name for name in ["z" + str(number) for number in range(13)] if name not in names][0]
        rule = source.choice(RULES)
        many = source.randint(1, room)
        grown.append((name, rule, drawn_fields(source, 3 - depth, many)) if depth < 3 and source.random() < 0.5
                     else (name, rule, source.choice(KINDS)))
        room -= leaf_count(grown[-1:])
    source.shuffle(grown)
    return tuple(grown)


def leaf_count(fields):
    return sum([leaf_count(kind) if isinstance(kind, tuple) else 1 for name, rule, kind in fields])
