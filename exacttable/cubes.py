"""Cubes of counts: their faces, and all cubes that have three told faces."""

from exacttable.checks import is_list
from exacttable.errors import NoCube, NoFaces, TooMany
from exacttable.frames import Frame
from exacttable.order import listed
from exacttable.tables import has_table_form

LONGEST_SIDE = 3
GREATEST_IN_CUBE = 100
MOST_IN_FRONT = 12


def is_face(thing):
    """Tell whether this is a table of one to three rows and columns, of numbers from 0 to 100."""
    if not has_table_form(thing) or len(thing) > LONGEST_SIDE or len(thing[0]) > LONGEST_SIDE:
        return False
    return all([number <= GREATEST_IN_CUBE for row in thing for number in row])


def is_cube(thing):
    """Tell whether this is a list of one to three layers, each a table of as many rows and columns."""
    if not is_list(thing) or not 1 <= len(thing) <= LONGEST_SIDE or not all([is_face(layer) for layer in thing]):
        return False
    return all([len(layer) == len(thing[0]) and len(layer[0]) == len(thing[0][0]) for layer in thing])


def added_up(layers):
    """Return layers of one size added up, cell by cell."""
    rows = [list(row) for row in layers[0]]
    for layer in layers[1:]:
        rows = [[number + more for number, more in zip(numbers, mores)] for numbers, mores in zip(rows, layer)]
    return rows


def faces(cube):
    """Return the three faces of a cube: front, side and top."""
    if not is_cube(cube):
        raise NoCube("a cube has one to three layers, rows and columns, of whole numbers from 0 to 100")
    side = [[sum(row) for row in layer] for layer in cube]
    top = [[sum(column) for column in zip(*layer)] for layer in cube]
    return added_up(cube), side, top


def fit_together(front, side, top):
    """Tell whether three faces have as many rows, columns and layers."""
    return len(front) == len(side[0]) and len(front[0]) == len(top[0]) and len(side) == len(top)


def want_faces(front, side, top):
    """Refuse what are no three faces that fit together, then a front of too much."""
    if not all([is_face(face) for face in (front, side, top)]) or not fit_together(front, side, top):
        raise NoFaces("three faces have one to three rows and columns each, fit together, and have numbers to 100")
    if sum([sum(row) for row in front]) > MOST_IN_FRONT:
        raise TooMany("the numbers of the front together are more than 12")


def rows_left(rows, layer):
    """Return what is left of the front's rows behind a layer."""
    return [[number - less for number, less in zip(numbers, lesses)] for numbers, lesses in zip(rows, layer)]


def cubes(front, side, top):
    """Return all cubes that have these three faces, in order."""
    want_faces(front, side, top)
    begun = [([], front)]
    for row_sums, column_sums in zip(side, top):
        # So few are in the front that a layer within it never comes to more tables than are listed.
        begun = [(layers + [layer], rows_left(left, layer)) for layers, left in begun
                 for layer in listed(Frame(row_sums, column_sums, left))]
    # Cubes that begin alike have the same layers, so each gets its own.
    return [[[list(row) for row in layer] for layer in layers] for layers, left in begun
            if sum([sum(row) for row in left]) == 0]
