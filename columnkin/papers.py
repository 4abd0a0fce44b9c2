"""Papers: what shows that columns belong to common records, or that they do not (point 20)."""

from columnkin.columns import check_parts, has_sound, is_admissible, skeletons_of, validate
from columnkin.errors import BadRecord, TooMany
from columnkin.records import assemble, shred
from columnkin.repair import complete


def judge(schema, parts, paper):
    """True if the paper is taken; whatever it is, it raises no error."""
    check_parts(schema, parts)
    if type(paper) is not tuple or len(paper) == 0:
        return False
    word, *told = paper
    # Only of texts it is certain that they can be compared.
    if type(word) is not str:
        return False
    if word == "records" and len(told) == 1:
        return are_their_records(schema, parts, told[0])
    if word == "entry" and len(told) == 2:
        return is_wrong_entry(schema, parts, told[0], told[1])
    if word == "pair" and len(told) == 3:
        return is_unlike_pair(schema, parts, told[0], told[1], told[2])
    return False


def are_their_records(schema, parts, records):
    """True if these are records of the schema, and each column that is there is written of them."""
    try:
        columns = shred(schema, records)
    except (BadRecord, TooMany):
        return False
    return all([
        # True equals 1, so an equal column is the same one only if its values are of the kind of the leaf.
        parts[leaf] is None or (has_sound(schema, parts, leaf) and parts[leaf] == columns[leaf])
        for leaf in range(len(parts))
    ])


def is_wrong_entry(schema, parts, leaf, index):
    """True if the column of this leaf is there and has an entry with this index that is not admissible."""
    if not is_number_below(leaf, len(parts)) or parts[leaf] is None:
        return False
    return is_number_below(index, len(parts[leaf])) and not is_admissible(schema, leaf, parts[leaf], index)


def is_unlike_pair(schema, parts, first, second, index):
    """True if the columns of two different leaves are there and sound, and their skeletons differ at this index."""
    if not is_number_below(first, len(parts)) or not is_number_below(second, len(parts)) or first == second:
        return False
    if not has_sound(schema, parts, first) or not has_sound(schema, parts, second):
        return False
    one, other = skeletons_of(schema, parts, first, second)
    return is_number_below(index, max(len(one), len(other))) and differ_at(one, other, index)


def is_number_below(number, bound):
    """True if a value is an integer from 0 on, and below the bound."""
    return type(number) is int and 0 <= number < bound


def differ_at(one, other, index):
    """True if just one of two skeletons has a pair at this index, or they have unlike ones."""
    # A slice behind the end is empty, where an index would raise an error.
    return one[index:index + 1] != other[index:index + 1]


def paper_for(schema, parts):
    """A paper that is taken."""
    problem = validate(schema, parts)
    if problem is None:
        return ("records", assemble(schema, complete(schema, parts)))
    if problem[0] == "entry":
        return problem
    word, first, second, path = problem
    return ("pair", first, second, first_difference(schema, parts, first, second))


def first_difference(schema, parts, first, second):
    """The first index at which the skeletons of two columns that do not fit differ."""
    one, other = skeletons_of(schema, parts, first, second)
    index = 0
    while not differ_at(one, other, index):
        index += 1
    return index
