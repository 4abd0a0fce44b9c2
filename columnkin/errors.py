"""The errors of columnkin: all of them stand under KinError (point 3)."""


class KinError(ValueError):
    """The base of all errors of columnkin."""


class BadSchema(KinError):
    """What should be the fields of a schema is none (point 4)."""


class BadRecord(KinError):
    """What should be records of a schema is none (point 6)."""


class BadParts(KinError):
    """What should be parts of a schema is none (point 7)."""


class BadOctets(KinError):
    """What should be octets does not consist of lengths and blocks (point 14)."""


class Inconsistent(KinError):
    """Columns have a problem, or one that is needed is missing (points 12, 17 and 21)."""


class Unsound(KinError):
    """A column that should be packed is not sound (point 13)."""


class TooMany(KinError):
    """A column would have too many entries, or a table too many records (points 8 and 22)."""


class NoSuchPath(KinError):
    """A path is that of no leaf, or of no field where any field is asked for (points 5 and 21)."""


class NoSuchRecord(KinError):
    """A table has no record with this number, or not so many records (point 22)."""


class WrongKind(KinError):
    """A leaf has not the kind that is asked for, or a value not the kind of the leaf (point 21)."""


class CannotAdopt(KinError):
    """A schema does not hold the leaves that a table has (point 22)."""
