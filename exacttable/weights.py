"""What a table of a small frame weighs by a kind of weights, and all its tables together."""

from exacttable.checks import are_rows, is_whole
from exacttable.counts import Alike, want_small, weighed_together
from exacttable.errors import NoKind
from exacttable.tables import wanted_table_of

GREATEST_FACTOR = 10 ** 6


class Ways:
    """A weigher by which a table weighs the ways to part each column's sum into the column's numbers."""

    def __init__(self, greatest):
        self.factorials = [1]
        for number in range(1, greatest + 1):
            self.factorials.append(self.factorials[-1] * number)

    def cell_weight(self, row, column, left, number):
        """Return in how many ways so many can be chosen out of what is left of the column."""
        return self.factorials[left] // (self.factorials[number] * self.factorials[left - number])


class Factors:
    """A weigher by which a table weighs the product of the cells' factors to the power of its numbers."""

    def __init__(self, cell_factors):
        self.cell_factors = cell_factors

    def cell_weight(self, row, column, left, number):
        """Return the cell's factor to the power of the number; to that of 0 each is 1, 0 as well."""
        power = 1
        for turn in range(number):
            power *= self.cell_factors[row][column]
        return power


def is_factor(thing):
    """Tell whether this is a whole number from 0 to 10 ** 6."""
    return is_whole(thing) and 0 <= thing <= GREATEST_FACTOR


def are_factors(thing, height, width):
    """Tell whether these are factors for so many rows and columns."""
    return are_rows(thing, height, width) and all([is_factor(item) for row in thing for item in row])


def wanted_weigher(frame, kind):
    """Return the weigher of a kind of weights for a small frame, or refuse what is no kind."""
    if not isinstance(kind, tuple) or len(kind) not in (1, 2) or not isinstance(kind[0], str):
        raise NoKind("a kind is a tuple of a word, and of factors where the word is factors")
    columns = frame.columns()
    if kind[0] == "once" and len(kind) == 1:
        return Alike()
    if kind[0] == "ways" and len(kind) == 1:
        return Ways(max(columns))
    if kind[0] == "factors" and len(kind) == 2 and are_factors(kind[1], len(frame.rows()), len(columns)):
        return Factors(kind[1])
    raise NoKind("a kind is once, or ways, or factors with a whole number from 0 to 10 ** 6 for each cell")


def table_weight(weigher, rows):
    """Return what a table weighs by a weigher."""
    left = [sum(column) for column in zip(*rows)]
    product = 1
    for row, numbers in enumerate(rows):
        for column, number in enumerate(numbers):
            product *= weigher.cell_weight(row, column, left[column], number)
            left[column] -= number
    return product


def weight(frame, table, kind):
    """Return what a table of a small frame weighs."""
    want_small(frame)
    rows = wanted_table_of(frame, table)
    return table_weight(wanted_weigher(frame, kind), rows)


def whole(frame, kind):
    """Return what all tables of a small frame weigh together."""
    want_small(frame)
    return weighed_together(frame, wanted_weigher(frame, kind))
