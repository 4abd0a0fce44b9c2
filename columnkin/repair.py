"""Repair: lost columns are made up, and of damaged ones those that belong together are kept (points 16 to 19)."""

from columnkin.columns import check_parts, has_sound, skeleton, validate
from columnkin.errors import Inconsistent

MADE_UP_VALUES = {"int": 0, "text": "", "flag": False}


def complete(schema, parts):
    """The columns that are there, and in the places of missing ones those that are made up."""
    if validate(schema, parts) is not None:
        raise Inconsistent("the columns do not belong to common records")
    return tuple([
        made_up(schema, leaf, outline_around(schema, parts, leaf)) if parts[leaf] is None else parts[leaf]
        for leaf in range(len(schema))
    ])


def outline_around(schema, parts, leaf):
    """The outline of the last group on the way of a leaf."""
    for step in reversed(schema.ways[leaf][:-1]):
        for other in range(len(schema)):
            if parts[other] is not None and step in schema.ways[other]:
                return skeleton(parts[other], step[1], step[2])
    return ()


def made_up(schema, leaf, outline):
    """The column that is made up for a leaf from the outline of the last group on its way."""
    path, kind, most_repetition, most_definition = schema.leaves[leaf]
    # A leaf that is not required has a greater definition level than its group, so no pair reaches it.
    return tuple([
        (repetition, definition, MADE_UP_VALUES[kind] if definition == most_definition else None)
        for repetition, definition in outline
    ])


def salvage(schema, parts):
    """The tuple of the salvaged leaves, ascending."""
    check_parts(schema, parts)
    sound = [leaf for leaf in range(len(schema)) if has_sound(schema, parts, leaf)]
    return tuple(chosen(schema, parts, sound, 0))


def chosen(schema, parts, leaves, depth):
    """Those of the leaves that are chosen in the group that stands at this depth on the ways of all of them."""
    greatest = []
    for members in classes_of(schema, parts, leaves, depth):
        taken = taken_from(schema, parts, members, depth)
        # Classes come in the order of their least leaves, so of several greatest ones the first is kept.
        if len(taken) > len(greatest):
            greatest = taken
    return greatest


def classes_of(schema, parts, leaves, depth):
    """The leaves, those with equal skeletons at the group together."""
    classes = {}
    for leaf in leaves:
        path, repetition, definition = schema.ways[leaf][depth]
        classes.setdefault(skeleton(parts[leaf], repetition, definition), []).append(leaf)
    return list(classes.values())


def taken_from(schema, parts, members, depth):
    """The leaves that are taken from a class: fields of the group itself, and what is chosen in its groups."""
    within = {}
    for leaf in members:
        within.setdefault(schema.ways[leaf][depth + 1], []).append(leaf)
    taken = []
    # The leaves of a field have numbers that follow one another, so field by field they come ascending.
    for step, leaves in within.items():
        if step == schema.ways[leaves[0]][-1]:
            taken.extend(leaves)
        else:
            taken.extend(chosen(schema, parts, leaves, depth + 1))
    return taken
