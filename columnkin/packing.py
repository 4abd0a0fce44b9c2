"""Packing: columns as octets, and what can be had from octets that are damaged (points 13 to 15)."""

from columnkin.columns import MOST_ENTRIES, SIGNS, check_parts, first_fault
from columnkin.errors import BadOctets, Unsound
from columnkin.records import assemble
from columnkin.repair import complete, salvage

GREATEST_NUMBER = 4294967295
MOST_OCTETS = 5


def pack(schema, parts):
    """The tuple of octets of parts."""
    check_parts(schema, parts)
    for leaf in range(len(schema)):
        if parts[leaf] is not None and first_fault(schema, leaf, parts[leaf]) is not None:
            raise Unsound("a column has an entry that is not admissible")
    octets = []
    for leaf in range(len(schema)):
        block = [] if parts[leaf] is None else block_of(schema.leaves[leaf][1], parts[leaf])
        octets.extend(number_written(len(block)))
        octets.extend(block)
    return tuple(octets)


def block_of(kind, column):
    """The octets of a sound column of a leaf of this kind."""
    octets = number_written(len(column))
    octets.extend(levels_written([entry[0] for entry in column]))
    octets.extend(levels_written([entry[1] for entry in column]))
    for entry in column:
        if entry[2] is not None:
            octets.extend(value_written(kind, entry[2]))
    return octets


def number_written(number):
    """The octets of a number."""
    octets = []
    while number >= 128:
        octets.append(number % 128 + 128)
        number = number // 128
    octets.append(number)
    return octets


def levels_written(levels):
    """The octets of levels, run by run."""
    runs = []
    for level in levels:
        if len(runs) == 0 or runs[-1][0] != level:
            runs.append([level, 0])
        runs[-1][1] += 1
    octets = []
    for level, length in runs:
        octets.extend(number_written(4 * length + level))
    return octets


def value_written(kind, value):
    """The octets of a value."""
    if kind == "int":
        return number_written(2 * value if value >= 0 else -2 * value - 1)
    if kind == "flag":
        return [1 if value else 0]
    octets = number_written(len(value))
    for sign in value:
        octets.extend(number_written(SIGNS.index(sign)))
    return octets


def unpack(schema, octets):
    """The parts that octets hold."""
    if not are_octets(octets):
        raise BadOctets("octets are a tuple of integers from 0 to 255")
    parts = []
    at = 0
    for leaf in range(len(schema)):
        length, at = read_number(octets, at)
        if length > len(octets) - at:
            raise BadOctets("a block is cut off")
        parts.append(column_in(schema, leaf, octets[at:at + length]))
        at = at + length
    if at != len(octets):
        raise BadOctets("there are octets behind the last block")
    return tuple(parts)


def are_octets(octets):
    """True if a value is a tuple of integers from 0 to 255."""
    if type(octets) is not tuple:
        return False
    return all([type(octet) is int and 0 <= octet <= 255 for octet in octets])


def column_in(schema, leaf, block):
    """The sound column of the leaf whose block these octets are, or None."""
    kind = schema.leaves[leaf][1]
    try:
        column = read_column(schema, leaf, block)
    except BadOctets:
        return None
    if first_fault(schema, leaf, column) is not None:
        return None
    # What is read may have been written in another way, so only what is written from it decides.
    return column if tuple(block_of(kind, column)) == block else None


def read_column(schema, leaf, block):
    """The column that a block tells of, sound or not; BadOctets if it tells of none."""
    path, kind, most_repetition, most_definition = schema.leaves[leaf]
    count, at = read_number(block, 0)
    if count > MOST_ENTRIES:
        raise BadOctets("a column has more than 1000 entries")
    repetitions, at = read_levels(block, at, count)
    definitions, at = read_levels(block, at, count)
    column = []
    for repetition, definition in zip(repetitions, definitions):
        value = None
        if definition == most_definition:
            value, at = read_value(block, at, kind)
        column.append((repetition, definition, value))
    return tuple(column)


def read_number(octets, at):
    """The number that is written from this place on, and the place behind it; BadOctets if there is none."""
    number = 0
    weight = 1
    for octet in octets[at:at + MOST_OCTETS]:
        at = at + 1
        if octet == 0 and weight > 1:
            raise BadOctets("a number has more octets than it needs")
        number = number + octet % 128 * weight
        if number > GREATEST_NUMBER:
            raise BadOctets("a number exceeds the greatest one")
        if octet < 128:
            return (number, at)
        weight = weight * 128
    raise BadOctets("a number has no last octet")


def read_levels(block, at, count):
    """So many levels that are written from this place on, and the place behind them."""
    levels = []
    while len(levels) < count:
        run, at = read_number(block, at)
        if run // 4 > count - len(levels):
            raise BadOctets("a run is longer than the column")
        levels.extend([run % 4] * (run // 4))
    return (levels, at)


def read_value(block, at, kind):
    """The value of this kind that is written from this place on, and the place behind it."""
    number, at = read_number(block, at)
    if kind == "int":
        return (number // 2 if number % 2 == 0 else -(number // 2) - 1, at)
    if kind == "flag":
        return (number == 1, at)
    return read_text(block, at, number)


def read_text(block, at, length):
    """The text of so many signs that are written from this place on, and the place behind it."""
    signs = []
    for _ in range(length):
        number, at = read_number(block, at)
        if number >= len(SIGNS):
            raise BadOctets("a number is that of no sign")
        signs.append(SIGNS[number])
    return ("".join(signs), at)


def recover(schema, octets):
    """The pair of the salvaged leaves and the records to which the completed columns belong."""
    parts = unpack(schema, octets)
    leaves = salvage(schema, parts)
    kept = tuple([parts[leaf] if leaf in leaves else None for leaf in range(len(schema))])
    return (leaves, assemble(schema, complete(schema, kept)))
