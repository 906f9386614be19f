"""What several tests hand in: made tables and frames, their forms, and wrong things."""

from exacttable import errors

GREATEST = 10 ** 12

NAMES = (
    "NoSums", "NoCaps", "NoTable", "NoOrder", "NoColumns", "NoText", "TooMany", "NoNumber", "NoStep",
    "Bounded", "NoCell", "NoKind", "NoScores", "NoWhole", "NoCube", "NoFaces", "NoLine",
)


def sizes():
    """All numbers of rows and columns of a table."""
    return [(height, width) for height in range(1, 7) for width in range(1, 7)]


def made_table(height, width):
    """An ordinary table, in which no two rows and no two columns are alike."""
    return [[(7 * i + 11 * j + i * j * j) * (i + 2 * j) for j in range(width)] for i in range(height)]


def sums_of(table):
    """The sums of rows and of columns, cell by cell."""
    rows = [0] * len(table)
    columns = [0] * len(table[0])
    for i in range(len(rows)):
        for j in range(len(columns)):
            rows[i] += table[i][j]
            columns[j] += table[i][j]
    return rows, columns


def made_caps(table):
    """Caps that just let the table be, every third cell not bound."""
    return [[None if (i + 2 * j) % 3 == 0 else number for j, number in enumerate(row)]
            for i, row in enumerate(table)]


def told(frame):
    """All that a frame tells."""
    return frame.rows(), frame.columns(), frame.caps()


def forms(rows):
    """The same rows as lists, as tuples, and mixed."""
    return [
        [list(row) for row in rows],
        tuple(tuple(row) for row in rows),
        [tuple(row) for row in rows],
        tuple(list(row) for row in rows),
        [tuple(row) if at % 2 else list(row) for at, row in enumerate(rows)],
    ]


def endless_list():
    """A list that holds itself."""
    held = []
    held.append(held)
    return held


class Hostile:
    """A thing that can't be compared, counted, hashed or shown."""

    __hash__ = None

    def __eq__(self, other):
        raise RuntimeError("compared")

    __lt__ = __le__ = __gt__ = __ge__ = __ne__ = __eq__

    def __len__(self):
        raise RuntimeError("counted")

    def __bool__(self):
        raise RuntimeError("tested")

    def __repr__(self):
        raise RuntimeError("shown")


def no_numbers():
    """Things that are no whole numbers."""
    return [
        None, True, False, "", "0", "1", b"", b"1", [], [0], (), (0,), {}, {0: 0}, set(), {0}, frozenset({0}),
        range(1), object(), int, len, Hostile(), endless_list(),
    ]


def no_counts():
    """Things that are no whole numbers from 0 to 10 ** 12."""
    return no_numbers() + [-1, -GREATEST, GREATEST + 1, 10 ** 59, -(10 ** 59), 10 ** 5000]


def no_places(many):
    """Things that are none of so many places."""
    return no_numbers() + [-1, -many, many, many + 1, GREATEST, 10 ** 59, 10 ** 5000]


def no_lists():
    """Things that are no lists of something."""
    return [
        None, True, False, 0, 1, -1, 6, GREATEST, "", "1", "11", "1 0", b"", b"\x01", b"\x01\x01", {}, {0: 0},
        {0: 1, 1: 0}, set(), {0}, {0, 1}, frozenset({0}), range(1), range(2), object(), list, iter([0]),
        [0].__iter__, Hostile(),
    ]


def refusal(deed, *things):
    """The names of the classes that the deed's refusal comes under, as one text."""
    try:
        deed(*things)
    except errors.TableError as refused:
        return " ".join(name for name in NAMES if isinstance(refused, getattr(errors, name)))
    return "not refused"
