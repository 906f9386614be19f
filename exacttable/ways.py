"""Steps of a table, how far two tables are apart, and ways from one table of a free frame to another one."""

from exacttable.checks import GREATEST, are_unlike_places, is_whole
from exacttable.errors import Bounded, NoStep, NoTable
from exacttable.tables import table_sums, wanted_table, wanted_table_of


def is_step(rows, thing):
    """Tell whether this, be it what it may, is a step of a table."""
    if not isinstance(thing, tuple) or len(thing) != 5:
        return False
    row, other_row, column, other_column, amount = thing
    if not are_unlike_places(row, other_row, len(rows)):
        return False
    if not are_unlike_places(column, other_column, len(rows[0])):
        return False
    if not is_whole(amount) or amount < 1:
        return False
    if amount > min(rows[row][column], rows[other_row][other_column]):
        return False
    return max(rows[row][other_column], rows[other_row][column]) + amount <= GREATEST


def do_step(rows, step):
    """Do a step to rows of numbers."""
    row, other_row, column, other_column, amount = step
    rows[row][column] -= amount
    rows[other_row][other_column] -= amount
    rows[row][other_column] += amount
    rows[other_row][column] += amount


def stepped(table, step):
    """Return the table behind a step."""
    rows = wanted_table(table)
    if not is_step(rows, step):
        raise NoStep("this is no step of the table")
    do_step(rows, step)
    return rows


def lacks_of(rows, goal):
    """Return, cell by cell, how much more a table of the same size has: below 0 where it has less."""
    return [[wanted - number for number, wanted in zip(numbers, goal_numbers)]
            for numbers, goal_numbers in zip(rows, goal)]


def distance(one, other):
    """Return how much two tables of one frame differ, all cells together."""
    rows, goal = wanted_table(one), wanted_table(other)
    if table_sums(rows) != table_sums(goal):
        raise NoTable("these are no two tables of one frame")
    return sum([abs(lack) for row in lacks_of(rows, goal) for lack in row])


def want_free(frame):
    """Refuse a frame with a cap."""
    if not all([cap is None for row in frame.caps() for cap in row]):
        raise Bounded("the frame isn't free")


def lacking_column(lacks, row):
    """Return the first column in which a row lacks something."""
    return [lack > 0 for lack in lacks[row]].index(True)


def giving_row(lacks, column):
    """Return the first row that has too much in a column."""
    return [numbers[column] < 0 for numbers in lacks].index(True)


def giving_column(lacks, row):
    """Return the first column in which a row has too much."""
    return [lack < 0 for lack in lacks[row]].index(True)


def step_for(lacks, row):
    """Return a step for a cell of a row that lacks something; it takes from two cells that have too much.

    There are such in the cell's row and in its column, for there both tables have the same sums. Three of the four
    cells come nearer by the amount, so the distance lessens by at least twice of it.
    """
    column = lacking_column(lacks, row)
    other_row, other_column = giving_row(lacks, column), giving_column(lacks, row)
    amount = min(lacks[row][column], -lacks[row][other_column], -lacks[other_row][column])
    return row, other_row, other_column, column, amount


def led(frame, one, other):
    """Return the steps of a way from a table of a free frame to another one."""
    want_free(frame)
    rows, goal = wanted_table_of(frame, one), wanted_table_of(frame, other)
    steps = []
    # A row that is done has nothing too much, so no later step takes from it or puts to it.
    for row in range(len(rows)):
        while rows[row] != goal[row]:
            step = step_for(lacks_of(rows, goal), row)
            steps.append(step)
            do_step(rows, step)
    return steps
