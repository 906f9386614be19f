"""Tables of a frame in order: the first, the last, the next one, and all of them."""

from exacttable.errors import TooMany
from exacttable.one import Filling, limits_of, one_or_none
from exacttable.tables import wanted_table_of

MOST_LISTED = 300


def cells_of(table):
    """Return all cells, as rows and columns, in the order in which tables are compared."""
    return [(row, column) for row in range(len(table)) for column in range(len(table[0]))]


def some_filling(frame):
    """Return a filling with some table of the frame, or None where there is none."""
    told = one_or_none(frame)
    if told[0] != "table":
        return None
    return Filling(told[1], limits_of(frame))


def lessen_all(filling, cells):
    """Make each of these cells as little as it can be with those ahead of it held."""
    for row, column in cells:
        filling.lessen_fully(row, column)


def first_table(frame):
    """Return the first table of the frame, or None where there is none."""
    filling = some_filling(frame)
    if filling is None:
        return None
    lessen_all(filling, cells_of(filling.numbers))
    return filling.numbers


def last_table(frame):
    """Return the last table of the frame, or None where there is none."""
    filling = some_filling(frame)
    if filling is None:
        return None
    for row, column in cells_of(filling.numbers):
        filling.raise_fully(row, column)
    return filling.numbers


def raise_last(filling, cells):
    """Raise by one the last cell that can be with all ahead of it held, and return its place among the cells.

    The cells behind it are held no more; where no cell can be raised None is returned.
    """
    filling.hold_all()
    for place in reversed(range(len(cells))):
        row, column = cells[place]
        way = filling.raising_way(row, column)
        if way is not None and filling.room(way) > 0:
            # What a cell can be has no gaps, so the next table has one more here.
            filling.move(way, 1)
            return place
        filling.held[row][column] = False
    return None


def following(frame, table):
    """Return the table of the frame that is next behind this one, or None behind the last."""
    filling = Filling(wanted_table_of(frame, table), limits_of(frame))
    cells = cells_of(filling.numbers)
    place = raise_last(filling, cells)
    if place is None:
        return None
    lessen_all(filling, cells[place + 1:])
    return filling.numbers


def listed(frame):
    """Return all tables of the frame, in order, or refuse a frame that has too many."""
    tables = []
    table = first_table(frame)
    while table is not None:
        if len(tables) == MOST_LISTED:
            raise TooMany("the frame has more than 300 tables")
        tables.append(table)
        table = following(frame, table)
    return tables
