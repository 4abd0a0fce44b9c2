"""What several tests need: columns written in another way than the program does it, and drawn schemas and records."""

import random

from columnkin.schemas import Schema

SIGNS = "abcdefghijklmnopqrstuvwxyzABCDEFGHIJKLMNOPQRSTUVWXYZ0123456789 .,;:!?-_@/()"
RULES = ("required", "optional", "repeated")
KINDS = ("int", "text", "flag")


def write(fields, record, levels, path, columns):
    """Write a record of fields to the columns as point 8 tells it."""
    repetition, depth, definition = levels
    for name, rule, kind in fields:
        below = path + (name,)
        next_depth = depth + (rule == "repeated")
        next_definition = definition + (rule != "required")
        occurrences = {
            "required": lambda value: [value],
            "optional": lambda value: [] if value is None else [value],
            "repeated": lambda value: value,
        }[rule](record[name])
        if not occurrences:
            for leaf in columns:
                if leaf[:len(below)] == below:
                    columns[leaf].append((repetition, definition, None))
        for number, occurrence in enumerate(occurrences):
            at = next_depth if number else repetition
            if isinstance(kind, tuple):
                write(kind, occurrence, (at, next_depth, next_definition), below, columns)
            else:
                columns[below].append((at, next_definition, occurrence))


def columns_of(schema, records):
    """The columns of records."""
    columns = {tuple(leaf[0].split(".")): [] for leaf in schema.leaves}
    for record in records:
        write(schema.fields, record, (0, 0, 0), (), columns)
    return tuple([tuple(column) for column in columns.values()])


def draws(count):
    """So many sources of random numbers, the same ones in each run."""
    return [random.Random(seed) for seed in range(count)]


def drawn_schema(source):
    """A schema of 1 to 12 leaves, nested up to three deep."""
    return Schema(drawn_fields(source, 3, source.randint(1, 12)))


def drawn_fields(source, depth, leaves):
    """Fields with just so many leaves."""
    fields = []
    while leaves > 0:
        rule = source.choice(RULES)
        name = source.choice("abcdefgh") + str(len(fields)) + source.choice(("", "_", "x"))
        if depth > 1 and source.random() < 0.5:
            inside = source.randint(1, leaves)
            fields.append((name, rule, drawn_fields(source, depth - 1, inside)))
            leaves -= inside
        else:
            fields.append((name, rule, source.choice(KINDS)))
            leaves -= 1
    return tuple(fields)


def drawn_records(source, schema, most=5):
    """At most so many records of a schema."""
    return [drawn_record(source, schema.fields) for _ in range(source.randint(0, most))]


def drawn_record(source, fields):
    record = {}
    for name, rule, kind in fields:
        count = {"required": 1, "optional": source.randint(0, 1), "repeated": source.choice((0, 0, 1, 2, 3))}[rule]
        found = [
            drawn_record(source, kind) if isinstance(kind, tuple) else drawn_value(source, kind) for _ in range(count)
        ]
        record[name] = found if rule == "repeated" else found[0] if found else None
    return record


def drawn_value(source, kind):
    if kind == "int":
        return source.choice((0, 1, -1, 63, 64, -64, -65, 2147483647, -2147483648, source.randint(-10 ** 6, 10 ** 6)))
    if kind == "flag":
        return source.choice((True, False))
    return "".join(source.choices(SIGNS, k=source.choice((0, 1, 2, 3, 100))))
