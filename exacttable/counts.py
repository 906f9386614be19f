"""How many tables a small frame has, and which of them has which number."""

from exacttable.checks import is_place
from exacttable.errors import NoNumber, TooMany
from exacttable.tables import wanted_table_of

MOST_SMALL = 2000
MOST_NARROW = 500


class Alike:
    """A weigher by which each number weighs 1 in each cell, so that tables are counted."""

    def cell_weight(self, row, column, left, number):
        """Return what a number in a cell weighs, where so much is left of the column ahead of it."""
        return 1


class Rests:
    """The cells of a frame whose both sums come to the same, filled in one behind another, in order.

    A place is that of a cell among all. A REST is a tuple of what is left of the columns ahead of a place; what is
    left of the place's row follows from it. What a table weighs is the product of what the weigher tells of its cells.
    """

    def __init__(self, frame, weigher):
        row_sums = frame.rows()
        self.weigher = weigher
        self.whole_rest = tuple(frame.columns())
        self.rows_behind = [sum(row_sums[row + 1:]) for row in range(len(row_sums))]
        self.cell_bounds = frame.caps()
        self.places = len(row_sums) * len(self.whole_rest)
        self.found = {}

    def ends(self, row, column, rest):
        """Return the least and the greatest number that a cell can have; where none fits the least is greater."""
        row_left = sum(rest) - self.rows_behind[row]
        least = max(0, row_left - sum(rest[column + 1:]))
        greatest = min(row_left, rest[column])
        bound = self.cell_bounds[row][column]
        if bound is not None:
            greatest = min(greatest, bound)
        return least, greatest

    def choices(self, place, rest):
        """Return the numbers that the cell at a place can have, rising, each with the rest behind it."""
        row, column = divmod(place, len(rest))
        least, greatest = self.ends(row, column, rest)
        return [(number, rest[:column] + (rest[column] - number,) + rest[column + 1:])
                for number in range(least, greatest + 1)]

    def weight_behind(self, place, rest):
        """Return what all fillings of the cells from a place on weigh together."""
        if place == self.places:
            return 1
        # Many tables come by the same rest, so each is looked at but once.
        if (place, rest) not in self.found:
            row, column = divmod(place, len(rest))
            self.found[(place, rest)] = sum([
                self.weigher.cell_weight(row, column, rest[column], number) * self.weight_behind(place + 1, after)
                for number, after in self.choices(place, rest)])
        return self.found[(place, rest)]


def is_small(frame):
    """Tell whether the product of all column sums, each and one more, is at most 2,000."""
    product = 1
    for column_sum in frame.columns():
        product *= column_sum + 1
    return product <= MOST_SMALL


def want_small(frame):
    """Refuse a frame that isn't small."""
    if not is_small(frame):
        raise TooMany("the frame isn't small")


def weighed_together(frame, weigher):
    """Return what all tables of a small frame weigh together."""
    if sum(frame.rows()) != sum(frame.columns()):
        return 0
    rests = Rests(frame, weigher)
    return rests.weight_behind(0, rests.whole_rest)


def counted(frame):
    """Return how many tables a small frame has."""
    want_small(frame)
    return weighed_together(frame, Alike())


def is_narrow(frame):
    """Tell whether the frame is small and has at most 500 tables."""
    return is_small(frame) and counted(frame) <= MOST_NARROW


def want_narrow(frame):
    """Refuse a frame that isn't narrow."""
    if not is_narrow(frame):
        raise TooMany("the frame isn't narrow")


def as_rows(numbers, width):
    """Return the numbers of a table, told one behind another, as rows."""
    return [list(numbers[at:at + width]) for at in range(0, len(numbers), width)]


def narrow_tables(frame):
    """Return all tables of a narrow frame, in order."""
    want_narrow(frame)
    if counted(frame) == 0:
        return []
    rests = Rests(frame, Alike())
    begun = [((), rests.whole_rest)]
    for place in range(rests.places):
        # What can't be filled in to the end is left out at once, so there are never more begun than tables.
        begun = [(numbers + (number,), after) for numbers, rest in begun
                 for number, after in rests.choices(place, rest) if rests.weight_behind(place + 1, after) > 0]
    return [as_rows(numbers, len(rest)) for numbers, rest in begun]


def number_of(frame, table):
    """Return how many tables of a small frame come ahead of this one."""
    want_small(frame)
    rows = wanted_table_of(frame, table)
    rests = Rests(frame, Alike())
    rest = rests.whole_rest
    ahead = 0
    for place, number in enumerate([cell for row in rows for cell in row]):
        choices = rests.choices(place, rest)
        ahead += sum([rests.weight_behind(place + 1, after) for lesser, after in choices if lesser < number])
        rest = dict(choices)[number]
    return ahead


def choice_at(rests, place, rest, number):
    """Return the choice for a cell in the table of this number among those of a rest, and its number behind it."""
    choices = rests.choices(place, rest)
    at = 0
    number_left = number
    while number_left >= rests.weight_behind(place + 1, choices[at][1]):
        number_left -= rests.weight_behind(place + 1, choices[at][1])
        at += 1
    return choices[at], number_left


def table_at(frame, number):
    """Return the table of a small frame that has this number."""
    if not is_place(number, counted(frame)):
        raise NoNumber("no table has this number")
    rests = Rests(frame, Alike())
    rest = rests.whole_rest
    numbers = []
    number_left = number
    for place in range(rests.places):
        (chosen, rest), number_left = choice_at(rests, place, rest, number_left)
        numbers.append(chosen)
    return as_rows(numbers, len(rest))
