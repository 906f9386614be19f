"""Tables: their sums, whether they are those of a frame, and both exchanged and joined."""

from exacttable.checks import GREATEST, are_counts, are_unlike_places, is_list, is_place, is_short_list
from exacttable.errors import NoColumns, NoOrder, NoTable
from exacttable.frames import Frame


def has_table_form(thing):
    """Tell whether this is a table, be it of a frame or not."""
    if not is_short_list(thing) or not all([are_counts(row) for row in thing]):
        return False
    return all([len(row) == len(thing[0]) for row in thing])


def wanted_table(thing):
    """Return a copy of a table, or refuse what is none."""
    if not has_table_form(thing):
        raise NoTable("a table has one to six rows, alike in length, of one to six whole numbers from 0 to 10 ** 12")
    return [list(row) for row in thing]


def table_sums(table):
    """Return the sums of a table's rows and those of its columns."""
    rows = wanted_table(table)
    return [sum(row) for row in rows], [sum(column) for column in zip(*rows)]


def is_within(rows, caps):
    """Tell whether no number is above its cell's cap."""
    for numbers, row_caps in zip(rows, caps):
        for number, cap in zip(numbers, row_caps):
            if cap is not None and number > cap:
                return False
    return True


def is_table(frame, thing):
    """Tell whether this, be it what it may, is a table of the frame."""
    if not has_table_form(thing):
        return False
    if table_sums(thing) != (frame.rows(), frame.columns()):
        return False
    return is_within(thing, frame.caps())


def wanted_table_of(frame, thing):
    """Return a copy of a table of the frame, or refuse what is none of it."""
    if not is_table(frame, thing):
        raise NoTable("this is no table of the frame")
    return [list(row) for row in thing]


def wanted_order(thing, many):
    """Return a copy of an order of so many places, or refuse what is none."""
    if not is_list(thing) or not all([is_place(item, many) for item in thing]):
        raise NoOrder("an order is a list of places")
    if sorted(thing) != list(range(many)):
        raise NoOrder("in an order each place stands just once")
    return list(thing)


def exchanged_rows(rows, row_order, column_order):
    """Return rows of cells with rows and columns in these orders."""
    return [[rows[row][column] for column in column_order] for row in row_order]


def exchanged_frame(frame, order, other):
    """Return the frame with its rows exchanged by the one order, its columns by the other one."""
    rows = frame.rows()
    columns = frame.columns()
    row_order = wanted_order(order, len(rows))
    column_order = wanted_order(other, len(columns))
    caps = exchanged_rows(frame.caps(), row_order, column_order)
    return Frame([rows[row] for row in row_order], [columns[column] for column in column_order], caps)


def exchanged_table(table, order, other):
    """Return the table with its rows exchanged by the one order, its columns by the other one."""
    rows = wanted_table(table)
    row_order = wanted_order(order, len(rows))
    column_order = wanted_order(other, len(rows[0]))
    return exchanged_rows(rows, row_order, column_order)


def wanted_columns(j, k, many):
    """Return the numbers of two unlike columns, the lesser one first, or refuse what are none."""
    if not are_unlike_places(j, k, many):
        raise NoColumns("these are no two unlike columns' numbers")
    return min(j, k), max(j, k)


def put_together(row, lesser, greater, joined):
    """Return a row with what is joined at the lesser place and without the greater one."""
    return row[:lesser] + [joined] + row[lesser + 1:greater] + row[greater + 1:]


def joined_counts(row, lesser, greater):
    """Return a row of numbers or sums with two of them added up."""
    total = row[lesser] + row[greater]
    if total > GREATEST:
        raise NoColumns("joined, these columns come above 10 ** 12")
    return put_together(row, lesser, greater, total)


def joined_cap(one, other):
    """Return the cap of two cells together."""
    if one is None or other is None:
        return None
    return min(one + other, GREATEST)


def joined_caps(row, lesser, greater):
    """Return a row of caps with two of them joined."""
    return put_together(row, lesser, greater, joined_cap(row[lesser], row[greater]))


def joined_frame(frame, j, k):
    """Return the frame with two columns put together at the lesser one's place."""
    columns = frame.columns()
    lesser, greater = wanted_columns(j, k, len(columns))
    caps = [joined_caps(row, lesser, greater) for row in frame.caps()]
    return Frame(frame.rows(), joined_counts(columns, lesser, greater), caps)


def joined_table(table, j, k):
    """Return the table with two columns put together at the lesser one's place."""
    rows = wanted_table(table)
    lesser, greater = wanted_columns(j, k, len(rows[0]))
    return [joined_counts(row, lesser, greater) for row in rows]
