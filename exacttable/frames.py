"""Frames: told sums of rows and columns, and caps of cells."""

from exacttable.checks import are_counts, are_rows, is_count, is_place
from exacttable.errors import NoCaps, NoCell, NoSums


def is_cap(thing):
    """Tell whether this is a cap, or None for a cell that isn't bound."""
    return thing is None or is_count(thing)


def wanted_sums(thing):
    """Return a copy of row sums or column sums, or refuse what are none."""
    if not are_counts(thing):
        raise NoSums("sums are one to six whole numbers from 0 to 10 ** 12")
    return tuple(thing)


def wanted_caps(thing, height, width):
    """Return a copy of the caps for so many rows and columns, or refuse what are none."""
    if thing is None:
        return ((None,) * width,) * height
    if not are_rows(thing, height, width) or not all([is_cap(item) for row in thing for item in row]):
        raise NoCaps("caps are rows of whole numbers from 0 to 10 ** 12, or None, one for each cell")
    return tuple([tuple(row) for row in thing])


class Frame:
    """Row sums, column sums, and for each cell a cap, or None where it isn't bound."""

    def __init__(self, rows, columns, caps=None):
        row_sums = wanted_sums(rows)
        column_sums = wanted_sums(columns)
        cell_caps = wanted_caps(caps, len(row_sums), len(column_sums))
        # Tuples are kept, so that no list of the asker's is ever shared with a frame.
        self.row_sums = row_sums
        self.column_sums = column_sums
        self.cell_caps = cell_caps

    def rows(self):
        """Return the row sums."""
        return list(self.row_sums)

    def columns(self):
        """Return the column sums."""
        return list(self.column_sums)

    def caps(self):
        """Return the caps, row by row."""
        return [list(row) for row in self.cell_caps]

    def cap(self, row, column):
        """Return the cap of a cell, or None where it isn't bound."""
        if not is_place(row, len(self.row_sums)) or not is_place(column, len(self.column_sums)):
            raise NoCell("this is no cell of the frame")
        return self.cell_caps[row][column]
