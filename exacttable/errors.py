"""The refusals. All come under TableError, and none under another one."""


class TableError(ValueError):
    """Any refusal."""


class NoSums(TableError):
    """Row sums or column sums are none."""


class NoCaps(TableError):
    """Caps are none for these sums."""


class NoTable(TableError):
    """This is no table, or none of the frame."""


class NoOrder(TableError):
    """This is no order of the places."""


class NoColumns(TableError):
    """These are no two unlike columns' numbers, or they can't be joined."""


class NoText(TableError):
    """This is no table's text."""


class TooMany(TableError):
    """There are more than are looked at."""


class NoNumber(TableError):
    """No table has this number, or it is no number."""


class NoStep(TableError):
    """This is no step of the table."""


class Bounded(TableError):
    """The frame isn't free."""


class NoCell(TableError):
    """This is no cell of the frame."""


class NoKind(TableError):
    """This is no kind of weights."""


class NoScores(TableError):
    """These are no scores."""


class NoWhole(TableError):
    """There is no whole to have a share of."""


class NoCube(TableError):
    """This is no cube."""


class NoFaces(TableError):
    """These are no faces that fit together."""


class NoLine(TableError):
    """This is no row that a desk answers."""
