"""Schemas: fields within groups, and the ways and levels of their leaves (points 4 and 5)."""

from columnkin.errors import BadSchema, NoSuchPath

KINDS = ("int", "text", "flag")
RULES = ("required", "optional", "repeated")
LETTERS = "abcdefghijklmnopqrstuvwxyz"
NAME_SIGNS = "abcdefghijklmnopqrstuvwxyz0123456789_"
LONGEST_NAME = 10
MOST_DEEP = 3
MOST_LEAVES = 12
WHOLE_RECORD = ("", 0, 0)


class Schema:
    """The fields of records.

    `ways` has, for each leaf, the steps (path, repetition level, definition level) of the
    groups that contain it, from the whole record on, and of the leaf itself.
    """

    def __init__(self, fields):
        found = ways_within(fields, (WHOLE_RECORD,))
        self.fields = fields
        self.ways = tuple([way for way, kind in found])
        self.leaves = tuple([leaf_of(way[-1], kind) for way, kind in found])

    def __eq__(self, other):
        return isinstance(other, Schema) and self.fields == other.fields

    def __len__(self):
        return len(self.leaves)

    def place_of(self, path):
        """The number of the leaf with this path."""
        paths = [leaf[0] for leaf in self.leaves]
        if type(path) is not str or path not in paths:
            raise NoSuchPath("no leaf has this path")
        return paths.index(path)


def common_group(schema, first, second):
    """The innermost group of two different leaves: (path, repetition level, definition level)."""
    innermost = WHOLE_RECORD
    for step, other in zip(schema.ways[first], schema.ways[second]):
        # Steps behind the place where the ways part never equal each other: their paths differ.
        if step == other:
            innermost = step
    return innermost


def start_of(schema, leaf, number):
    """start(number) of a leaf: the definition level of the repeated field with this number on its way."""
    # Further steps keep the repetition level, but none of them has a lower definition level.
    return min([step[2] for step in schema.ways[leaf] if step[1] == number])


def ways_within(fields, around):
    """The pairs (way, kind) of all leaves within the fields of a group, whose own way is `around`."""
    if len(around) > MOST_DEEP:
        raise BadSchema("the fields are nested more than three deep")
    check_fields(fields)
    found = []
    for name, rule, kind in fields:
        way = (*around, step_below(around[-1], name, rule))
        if type(kind) is tuple:
            found.extend(ways_within(kind, way))
        else:
            found.append((way, kind))
    if len(found) > MOST_LEAVES:
        raise BadSchema("there are more than 12 leaves")
    return found


def step_below(step, name, rule):
    """The step from a group to one of its fields."""
    path, group_repetition, group_definition = step
    repetition, definition = levels_below(group_repetition, group_definition, rule)
    return (f"{path}.{name}" if path else name, repetition, definition)


def levels_below(repetition, definition, rule):
    """The repetition and the definition level of a field with this rule in a group with these levels."""
    return (
        repetition + 1 if rule == "repeated" else repetition,
        definition if rule == "required" else definition + 1,
    )


def count_leaves(kind):
    """How many leaves a field of this kind has in it, itself included."""
    if type(kind) is not tuple:
        return 1
    return sum([count_leaves(field[2]) for field in kind])


def leaf_of(step, kind):
    """What the attribute `leaves` tells of a leaf."""
    path, repetition, definition = step
    return (path, kind, repetition, definition)


def check_fields(fields):
    """Raise BadSchema unless these are the fields of a schema or group, apart from what is within groups."""
    if type(fields) is not tuple or len(fields) == 0:
        raise BadSchema("fields are a tuple of at least one field")
    for field in fields:
        check_field(field)
    if len({field[0] for field in fields}) != len(fields):
        raise BadSchema("two fields of one tuple have the same name")


def check_field(field):
    """Raise BadSchema unless this is a field, apart from what is within a group."""
    if type(field) is not tuple or len(field) != 3:
        raise BadSchema("a field is a tuple (name, rule, kind)")
    name, rule, kind = field
    if not is_name(name):
        raise BadSchema("a name has 1 to 10 of the signs a to z, 0 to 9 and _, the first one a letter")
    if type(rule) is not str or rule not in RULES:
        raise BadSchema("a rule is required, optional or repeated")
    if type(kind) is not tuple and (type(kind) is not str or kind not in KINDS):
        raise BadSchema("a kind is int, text, flag or a tuple of fields")


def is_name(name):
    """True if a value is the name of a field."""
    if type(name) is not str or not 1 <= len(name) <= LONGEST_NAME:
        return False
    return name[0] in LETTERS and all([sign in NAME_SIGNS for sign in name])
