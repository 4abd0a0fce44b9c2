"""Tables: records that are kept as columns, and changed (points 22 and 23)."""

from columnkin.columns import MOST_ENTRIES, skeleton
from columnkin.errors import CannotAdopt, NoSuchRecord, TooMany
from columnkin.records import MOST_RECORDS, assemble, pieces, shred
from columnkin.repair import complete
from columnkin.schemas import Schema


class Table:
    """Records of a schema; `past` has the (schema, columns) ahead of each change that can be undone."""

    def __init__(self, schema):
        self.schema = schema
        self.columns = tuple([() for leaf in schema.leaves])
        self.past = ()

    def __len__(self):
        return len(skeleton(self.columns[0], 0, 0))

    def __iter__(self):
        return iter(self.columns)

    def append(self, records):
        """Put records behind the others, and give how many there are then."""
        added = shred(self.schema, records)
        count = len(self) + len(records)
        if count > MOST_RECORDS:
            raise TooMany("there would be more than 100 records")
        columns = tuple([column + more for column, more in zip(self.columns, added)])
        if any([len(column) > MOST_ENTRIES for column in columns]):
            raise TooMany("a column would have more than 1000 entries")
        self.change_to(self.schema, columns)
        return count

    def truncate(self, count):
        """Keep so many records, the first ones, and give how many were taken away."""
        before = len(self)
        if type(count) is not int or not 0 <= count <= before:
            raise NoSuchRecord("there are not so many records")
        self.change_to(self.schema, columns_of(self.columns, 0, count))
        return before - count

    def adopt(self, schema):
        """Take another schema, which has all leaves of the present one."""
        # A column that is made up has no more entries than one that is there, so none is too long.
        self.change_to(schema, complete(schema, parts_for(schema, self.schema, self.columns)))

    def change_to(self, schema, columns):
        """Make a change that can be undone."""
        self.past = (*self.past, (self.schema, self.columns))
        self.schema = schema
        self.columns = columns

    def undo(self):
        """Take back the last change that is not undone; False if there is none."""
        if len(self.past) == 0:
            return False
        self.schema, self.columns = self.past[-1]
        self.past = self.past[:-1]
        return True

    def record(self, number):
        """The record with this number."""
        if type(number) is not int or not 0 <= number < len(self):
            raise NoSuchRecord("there is no record with this number")
        return assemble(self.schema, columns_of(self.columns, number, number + 1))[0]

    def records(self):
        """The list of all records."""
        return assemble(self.schema, self.columns)

    def tried(self):
        """A trial, which ends with the table as it is now."""
        return Trial(self)

    def foresee(self, records):
        """What `append` would give or raise."""
        with self.tried():
            return self.append(records)


class Trial:
    """What a table was when the trial was made."""

    def __init__(self, table):
        self.table = table
        self.schema = table.schema
        self.columns = table.columns
        self.past = table.past

    def __enter__(self):
        return self.table

    def __exit__(self, kind, value, trace):
        table = self.table
        table.schema = self.schema
        table.columns = self.columns
        table.past = self.past


def columns_of(columns, first, behind):
    """What the columns have of the records from the one with the number `first` up to the one ahead of `behind`."""
    return tuple([
        tuple([entry for run in pieces(column, 0)[first:behind] for entry in run])
        for column in columns
    ])


def parts_for(schema, present, columns):
    """The columns of the present schema, in their places in another one; CannotAdopt if one has no place there."""
    if not isinstance(schema, Schema):
        raise CannotAdopt("only a schema can be adopted")
    # The steps of a way tell the names by their paths, and the rules by how much their levels rise.
    wanted = list(zip(present.ways, present.leaves))
    found = list(zip(schema.ways, schema.leaves))
    if not all([leaf in found for leaf in wanted]):
        raise CannotAdopt("a leaf is missing, or has another kind or another way")
    return tuple([columns[wanted.index(leaf)] if leaf in wanted else None for leaf in found])
