"""One table of a frame, or a paper that shows that there is none."""

from exacttable.checks import is_list, is_place

# No number of a table is as great as this, so a cell that isn't bound is never full.
ENDLESS = 10 ** 12 + 1


def way_to(ahead, spot):
    """Return the spots from the first one to this one, told for each the spot ahead of it, None for the first."""
    way = [spot]
    while ahead[way[-1]] is not None:
        way.append(ahead[way[-1]])
    return way[::-1]


class Filling:
    """Numbers in cells, moved about within the cells' limits; cells that are held lead nowhere.

    Rows and columns are SPOTS: a row's is its number, a column's the number of rows and its own together.
    A cell that isn't full leads from its row to its column, one that isn't empty from its column to its row.
    A WAY is a list of spots, each of which a cell leads to from the one ahead of it. An amount moved along it is
    put to the former cells and taken from the latter ones, so only the sums of its two ends change, and none does
    where it ends at the spot at which it began.
    """

    def __init__(self, numbers, limits):
        self.numbers = numbers
        self.limits = limits
        self.held = [[False] * len(row) for row in numbers]

    def hold_all(self):
        """Hold all cells."""
        self.held = [[True] * len(row) for row in self.numbers]

    def beside(self, spot):
        """Return the spots that cells lead to from this one."""
        height = len(self.numbers)
        if spot < height:
            held, limits = self.held[spot], self.limits[spot]
            return [height + column for column, number in enumerate(self.numbers[spot])
                    if not held[column] and number < limits[column]]
        column = spot - height
        return [row for row, numbers in enumerate(self.numbers) if not self.held[row][column] and numbers[column] > 0]

    def reached(self, starts):
        """Return the spots that ways lead to from these, the nearest first, each with the spot ahead of it."""
        ahead = {spot: None for spot in starts}
        queue = list(starts)
        at = 0
        while at < len(queue):
            spot = queue[at]
            at += 1
            for other in self.beside(spot):
                if other not in ahead:
                    ahead[other] = spot
                    queue.append(other)
        return ahead

    def room(self, way):
        """Return the greatest amount that can be moved along a way of two spots or more."""
        height = len(self.numbers)
        rooms = []
        for spot, other in zip(way, way[1:]):
            if spot < height:
                rooms.append(self.limits[spot][other - height] - self.numbers[spot][other - height])
            else:
                rooms.append(self.numbers[other][spot - height])
        return min(rooms)

    def move(self, way, amount):
        """Move an amount along a way."""
        height = len(self.numbers)
        for spot, other in zip(way, way[1:]):
            if spot < height:
                self.numbers[spot][other - height] += amount
            else:
                self.numbers[other][spot - height] -= amount

    def round_way(self, start, goal):
        """Return a way from a spot to another one and straight back, or None where there is none.

        The cell between both is held meanwhile, so that it is passed on the way back alone.
        """
        ahead = self.reached([start])
        if goal not in ahead:
            return None
        return way_to(ahead, goal) + [start]

    def raising_way(self, row, column):
        """Return a way that raises a cell, which is held, and changes no other one that is, or None."""
        return self.round_way(len(self.numbers) + column, row)

    def move_round(self, start, goal):
        """Move as much as can be from a spot to another one and straight back."""
        way = self.round_way(start, goal)
        while way is not None and self.room(way) > 0:
            self.move(way, self.room(way))
            way = self.round_way(start, goal)

    def raise_fully(self, row, column):
        """Make a cell as great as it can be, and hold it."""
        self.held[row][column] = True
        self.move_round(len(self.numbers) + column, row)

    def lessen_fully(self, row, column):
        """Make a cell as little as it can be, and hold it."""
        self.held[row][column] = True
        self.move_round(row, len(self.numbers) + column)


def limits_of(frame):
    """Return the caps of a frame, with a number where a cell isn't bound."""
    return [[ENDLESS if cap is None else cap for cap in row] for row in frame.caps()]


def nearest_way(filling, rows_left, columns_left):
    """Return a shortest way from a row of which something is left to such a column, or None."""
    height = len(rows_left)
    ahead = filling.reached([row for row, left in enumerate(rows_left) if left > 0])
    for spot in ahead:
        if spot >= height and columns_left[spot - height] > 0:
            return way_to(ahead, spot)
    return None


def fill(filling, rows_left, columns_left):
    """Fill in as much as can be of what is left of the rows and of the columns, and take it off from these."""
    height = len(rows_left)
    way = nearest_way(filling, rows_left, columns_left)
    while way is not None:
        row, column = way[0], way[-1] - height
        amount = min(rows_left[row], columns_left[column], filling.room(way))
        filling.move(way, amount)
        rows_left[row] -= amount
        columns_left[column] -= amount
        way = nearest_way(filling, rows_left, columns_left)


def paper_of_rows(filling, rows_left):
    """Return the paper for rows of which something is left when no more can be filled in.

    All cells from the rows that are reached to columns that aren't are full, all from other rows to columns that
    are reached are empty, and nothing is left of these columns; so the reached rows have more than can be held.
    """
    height = len(rows_left)
    spots = sorted(filling.reached([row for row, left in enumerate(rows_left) if left > 0]))
    return "rows", [spot for spot in spots if spot < height], [spot - height for spot in spots if spot >= height]


def one_or_none(frame):
    """Return ("table", table), or a paper that shows that the frame has none."""
    rows_left, columns_left = frame.rows(), frame.columns()
    filling = Filling([[0] * len(columns_left) for row in rows_left], limits_of(frame))
    fill(filling, rows_left, columns_left)
    if sum(rows_left) > 0:
        return paper_of_rows(filling, rows_left)
    if sum(columns_left) > 0:
        # All rows are filled in, so the columns together have more than they.
        return "columns", list(range(len(columns_left))), list(range(len(rows_left)))
    return "table", filling.numbers


def are_rising_places(thing, many):
    """Tell whether this is a rising list of some of so many places."""
    if not is_list(thing) or not all([is_place(item, many) for item in thing]):
        return False
    return all([item < after for item, after in zip(thing, thing[1:])])


def is_paper(thing):
    """Tell whether this is a tuple of three with one of both words ahead."""
    if not isinstance(thing, tuple) or len(thing) != 3:
        return False
    return isinstance(thing[0], str) and thing[0] in ("rows", "columns")


def hold_too_little(sums, other_sums, caps, some, others):
    """Tell whether some rows have more than their cells can hold by caps and by the sums of the other columns."""
    if not are_rising_places(some, len(sums)) or not are_rising_places(others, len(other_sums)):
        return False
    outside = [column for column in range(len(other_sums)) if column not in others]
    bounds = [caps[row][column] for row in some for column in outside]
    if None in bounds:
        return False
    return sum([sums[row] for row in some]) > sum(bounds) + sum([other_sums[column] for column in others])


def shows_none(frame, paper):
    """Tell whether this, be it what it may, is a paper that shows that the frame has no table."""
    if not is_paper(paper):
        return False
    word, some, others = paper
    if word == "rows":
        return hold_too_little(frame.rows(), frame.columns(), frame.caps(), some, others)
    caps = frame.caps()
    turned = [list(column) for column in zip(*caps)]
    return hold_too_little(frame.columns(), frame.rows(), turned, some, others)
