"""Rings of cells that lead from one table of a frame to another one."""

from exacttable.tables import wanted_table_of
from exacttable.ways import giving_row, lacking_column, lacks_of


def rows_round(lacks, start):
    """Return the rows of a ring, each behind the one whose lacking column it gives to.

    Each row and column that lacks something has too much elsewhere, for both tables have the same sums; so from a
    row it always goes on, until it comes to a row again. Each row goes by one column, so no column comes twice either.
    """
    walked = []
    row = start
    while row not in walked:
        walked.append(row)
        row = giving_row(lacks, lacking_column(lacks, row))
    return walked[walked.index(row):]


def ring_from(lacks, start):
    """Return a ring whose cells all come nearer by it; the walk to it begins at a row that lacks something."""
    rows = rows_round(lacks, start)
    columns = [lacking_column(lacks, row) for row in rows]
    cells = []
    for at, row in enumerate(rows):
        # The row gives to the column ahead of its own; ahead of the first stands the last.
        cells += [(row, columns[at - 1]), (row, columns[at])]
    return cells, min([abs(lacks[row][column]) for row, column in cells])


def go_round(rows, ring):
    """Take a ring's amount from its first cell, its third, and so on, and put it to the others."""
    cells, amount = ring
    for row, column in cells[::2]:
        rows[row][column] -= amount
    for row, column in cells[1::2]:
        rows[row][column] += amount


def ringed(frame, one, other):
    """Return rings that lead, one behind another, from a table of the frame to another one."""
    rows, goal = wanted_table_of(frame, one), wanted_table_of(frame, other)
    rings = []
    for row in range(len(rows)):
        while rows[row] != goal[row]:
            ring = ring_from(lacks_of(rows, goal), row)
            rings.append(ring)
            go_round(rows, ring)
    return rings
