"""What a cell of a frame can be."""

from exacttable.errors import NoTable
from exacttable.order import some_filling


def bounds(frame, row, column):
    """Return the least and the greatest number of a cell, and a table of the frame with each of them there."""
    # The cap is asked for its refusal of what is no cell, which comes first.
    frame.cap(row, column)
    lessened, raised = some_filling(frame), some_filling(frame)
    if lessened is None:
        raise NoTable("the frame has no table")
    lessened.lessen_fully(row, column)
    raised.raise_fully(row, column)
    one, other = lessened.numbers, raised.numbers
    return one[row][column], other[row][column], one, other
