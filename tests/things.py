"""What several tests hand in: made tables and frames, their forms, and wrong things."""

import contextlib
import itertools
import math
import random
import signal

from exacttable import errors
from exacttable.frames import Frame

GREATEST = 10 ** 12

NAMES = (
    "NoSums", "NoCaps", "NoTable", "NoOrder", "NoColumns", "NoText", "TooMany", "NoNumber", "NoStep",
    "Bounded", "NoCell", "NoKind", "NoScores", "NoWhole", "NoCube", "NoFaces", "NoLine",
)


def sizes():
    """All numbers of rows and columns of a table."""
    return [(height, width) for height in range(1, 7) for width in range(1, 7)]


def made_table(height, width):
    """An ordinary table, in which no two rows and no two columns are alike."""
    return [[(7 * i + 11 * j + i * j * j) * (i + 2 * j) for j in range(width)] for i in range(height)]


def sums_of(table):
    """The sums of rows and of columns, cell by cell."""
    rows = [0] * len(table)
    columns = [0] * len(table[0])
    for i in range(len(rows)):
        for j in range(len(columns)):
            rows[i] += table[i][j]
            columns[j] += table[i][j]
    return rows, columns


def made_caps(table):
    """Caps that just let the table be, every third cell not bound."""
    return [[None if (i + 2 * j) % 3 == 0 else number for j, number in enumerate(row)]
            for i, row in enumerate(table)]


def told(frame):
    """All that a frame tells."""
    return frame.rows(), frame.columns(), frame.caps()


def forms(rows):
    """The same rows as lists, as tuples, and mixed."""
    return [
        [list(row) for row in rows],
        tuple(tuple(row) for row in rows),
        [tuple(row) for row in rows],
        tuple(list(row) for row in rows),
        [tuple(row) if at % 2 else list(row) for at, row in enumerate(rows)],
    ]


def endless_list():
    """A list that holds itself."""
    held = []
    held.append(held)
    return held


class Hostile:
    """A thing that can't be compared, counted, hashed or shown."""

    __hash__ = None

    def __eq__(self, other):
        raise RuntimeError("compared")

    __lt__ = __le__ = __gt__ = __ge__ = __ne__ = __eq__

    def __len__(self):
        raise RuntimeError("counted")

    def __bool__(self):
        raise RuntimeError("tested")

    def __repr__(self):
        raise RuntimeError("shown")


def no_numbers():
    """Things that are no whole numbers."""
    return [
        None, True, False, "", "0", "1", b"", b"1", [], [0], (), (0,), {}, {0: 0}, set(), {0}, frozenset({0}),
        range(1), object(), int, len, Hostile(), endless_list(),
    ]


def no_counts():
    """Things that are no whole numbers from 0 to 10 ** 12."""
    return no_numbers() + [-1, -GREATEST, GREATEST + 1, 10 ** 59, -(10 ** 59), 10 ** 5000]


def no_places(many):
    """Things that are none of so many places."""
    return no_numbers() + [-1, -many, many, many + 1, GREATEST, 10 ** 59, 10 ** 5000]


def no_lists():
    """Things that are no lists of something."""
    return [
        None, True, False, 0, 1, -1, 6, GREATEST, "", "1", "11", "1 0", b"", b"\x01", b"\x01\x01", {}, {0: 0},
        {0: 1, 1: 0}, set(), {0}, {0, 1}, frozenset({0}), range(1), range(2), object(), list, iter([0]),
        [0].__iter__, Hostile(),
    ]


def refusal(deed, *things):
    """The names of the classes that the deed's refusal comes under, as one text."""
    try:
        deed(*things)
    except errors.TableError as refused:
        return " ".join(name for name in NAMES if isinstance(refused, getattr(errors, name)))
    return "not refused"


def rows_of(total, left, caps):
    """All rows of a total with no number above what is left of its column or above its cap, gone through."""
    ends = [most if cap is None else min(most, cap) for most, cap in zip(left, caps)]
    return [row for row in itertools.product(*(range(end + 1) for end in ends)) if sum(row) == total]


def all_tables(frame):
    """All tables of a frame, gone through row by row and sorted; for frames of few."""
    begun = [([], frame.columns())]
    for total, caps in zip(frame.rows(), frame.caps()):
        begun = [(done + [list(row)], [most - number for most, number in zip(left, row)])
                 for done, left in begun for row in rows_of(total, left, caps)]
    return sorted(done for done, left in begun if not any(left))


def few_frames():
    """Frames of few tables or none: of one to four rows and columns, with caps and without, agreeing or not."""
    chance = random.Random(20)
    frames = []
    for height in range(1, 5):
        for width in range(1, 5):
            for turn in range(12):
                most = 4 if height * width <= 6 else 2 if height * width <= 9 else 1
                table = [[chance.randint(0, most) for column in range(width)] for row in range(height)]
                rows, columns = sums_of(table)
                if turn % 4 == 3:
                    chance.choice((rows, columns))[0] += 1
                caps = [[chance.choice((None, 0, 1, 2, number, number)) for number in row] for row in table]
                frames.append(Frame(rows, columns, caps if turn % 3 else None))
    return frames


def great_table(height, width):
    """A table whose sums come up to 10 ** 12."""
    part = GREATEST // (max(height, width) * 40)
    return [[part * ((5 * i + 3 * j + i * j) % 7 * 5) + 11 * i + 7 * j for j in range(width)] for i in range(height)]


def great_frames():
    """Frames of up to six rows and columns that have tables, with sums up to 10 ** 12, each with one of its tables."""
    pairs = []
    for height, width in sizes():
        table = great_table(height, width)
        rows, columns = sums_of(table)
        loose = [[number + 10 ** 9 for number in row] for row in table]
        for caps in (None, table, made_caps(table), loose):
            pairs.append((Frame(rows, columns, caps), table))
    corner = [[GREATEST * (i == j) for j in range(6)] for i in range(6)]
    pairs.append((Frame([GREATEST] * 6, [GREATEST] * 6), corner))
    pairs.append((Frame([GREATEST] * 6, [GREATEST] * 6, [[GREATEST] * 6] * 6), corner))
    return pairs


def free_ones(frames):
    """Those of these frames in which no cell has a cap."""
    return [frame for frame in frames if all(cap is None for row in frame.caps() for cap in row)]


def turned_round(table):
    """A table of the same sums that is far away: as many numbers as can be on the other slant."""
    left, below = sums_of(table)
    other = [[0] * len(below) for row in left]
    for i in range(len(left)):
        for j in reversed(range(len(below))):
            other[i][j] = min(left[i], below[j])
            left[i] -= other[i][j]
            below[j] -= other[i][j]
    return other


def chance_pair(chance, height, width):
    """Two tables of one frame by chance, with sums up to 10 ** 12."""
    most = GREATEST // max(height, width)
    one = [[chance.randint(0, most) * chance.randint(0, 1) for column in range(width)] for row in range(height)]
    other = [list(row) for row in one]
    for turn in range(60 if height > 1 and width > 1 else 0):
        row, other_row = chance.sample(range(height), 2)
        column, other_column = chance.sample(range(width), 2)
        amount = chance.randint(0, min(other[row][column], other[other_row][other_column]))
        other[row][column] -= amount
        other[other_row][other_column] -= amount
        other[row][other_column] += amount
        other[other_row][column] += amount
    return one, other


def some_kinds(height, width):
    """Kinds of weights for so many rows and columns, some with factors of 0."""
    return [
        ("once",), ("ways",), ("factors", [[1] * width] * height), ("factors", [[0] * width] * height),
        ("factors", [[(3 * i + 5 * j) % 4 for j in range(width)] for i in range(height)]),
        ("factors", [[10 ** 6 - i * width - j for j in range(width)] for i in range(height)]),
        ("factors", tuple(tuple(0 if i == j == 0 else 2 + i + j for j in range(width)) for i in range(height))),
    ]


def weighed(table, kind):
    """What a table weighs, by factorials and powers."""
    if kind[0] == "once":
        return 1
    if kind[0] == "factors":
        return math.prod(factor ** number for rows in zip(kind[1], table) for factor, number in zip(*rows))
    return math.prod(math.factorial(sum(column)) // math.prod(math.factorial(number) for number in column)
                     for column in zip(*table))


def no_rows(height, width, fill):
    """Things that are no rows of so many rows and columns."""
    row = [fill] * width
    wrong = no_lists() + [[], (), endless_list(), [[]] * height, row, [row] * (height - 1), [row] * (height + 1)]
    wrong += [[row + [fill]] * height, [row[1:]] * height, [row] * (height - 1) + [row + [fill]]]
    wrong += [[row] * (height - 1) + [row[1:]], [[row] * height], [row] * (height - 1) + [set(row)]]
    return wrong + [[row] * (height - 1) + [thing] for thing in no_lists() + [str(fill) * width]]


def with_one_other(height, width, fill, other):
    """Rows alike in all cells but one, for each cell."""
    made = []
    for i, j in itertools.product(range(height), range(width)):
        rows = [[fill] * width for row in range(height)]
        rows[i][j] = other
        made.append(rows)
    return made


def no_kinds(height, width):
    """Things that are no kinds of weights for so many rows and columns."""
    rows = [[1] * width] * height
    wrong = no_lists() + no_numbers() + ["once", "ways", "factors", (), ["once"], ["ways"], ["factors", rows]]
    wrong += [("factors",), ("once", None), ("ways", rows), ("once", rows), ("once", "once"), ("factors", rows, rows)]
    wrong += [("factors", rows, None), ("Once",), ("once ",), ("",), ("way",), ("factor", rows), (rows, "factors")]
    wrong += [("on", "ce"), (("once",),), (b"once",), (["once"],), (Hostile(),), ("factors", Hostile()), (None,)]
    wrong += [(0,), (True,), ("once", Hostile()), (Hostile(), rows), ({"once"},), {"once"}, {"once": 1}]
    wrong += [("factors", thing) for thing in no_rows(height, width, 1)]
    for thing in no_numbers() + [-1, 10 ** 6 + 1, 10 ** 59, -(10 ** 59), 10 ** 5000]:
        wrong += [("factors", made) for made in with_one_other(height, width, 1, thing)]
    return wrong


def some_scores(height, width):
    """Scores for so many rows and columns, below 0 and up to 10 ** 6 either way."""
    return [
        [[0] * width] * height,
        [[1 if i == j == 0 else 0 for j in range(width)] for i in range(height)],
        [[i * j - 2 * i + 3 for j in range(width)] for i in range(height)],
        [[(10 ** 6) * (-1) ** (i + j) for j in range(width)] for i in range(height)],
        tuple(tuple((7 * i + 3 * j + i * j) % 5 - 3 for j in range(width)) for i in range(height)),
    ]


def scored(table, scores):
    """The score of a table, cell by cell."""
    return sum(number * worth for rows in zip(table, scores) for number, worth in zip(*rows))


def no_scores(height, width):
    """Things that are no scores for so many rows and columns."""
    wrong = no_rows(height, width, 1) + no_numbers()
    for thing in no_numbers() + [10 ** 6 + 1, -(10 ** 6) - 1, 10 ** 59, -(10 ** 59), 10 ** 5000]:
        wrong += with_one_other(height, width, 1, thing)
    return wrong


def narrow_frames():
    """Narrow frames of few tables or none, each with all of them."""
    frames = few_frames() + [
        Frame([2, 2, 2], [2, 2, 2]), Frame([3, 1, 2], [1, 2, 2, 1], [[None, 1, 1, None]] * 3), Frame([1] * 4, [1] * 4),
        Frame([2, 3, 2], [2, 2, 3], [[None, 1, 2], [1, 2, 2], [2, None, 1]]), Frame([7, 6], [4, 9], [[None, 8]] * 2),
        Frame([4, 4, 4], [4, 4, 4], [[2, None, 2], [None, 0, None], [2, None, 2]]),
    ]
    pairs = []
    for at, frame in enumerate(frames):
        tables = all_tables(frame)
        # Of the many with one table or none a few are enough.
        if 2 <= len(tables) <= 40 or len(tables) < 2 and at % 5 == 3:
            if math.prod(total + 1 for total in frame.columns()) <= 2000:
                pairs.append((frame, tables))
    return pairs


def apart(one, other):
    """How much two tables differ, cell by cell."""
    return sum(abs(number - wanted) for numbers in zip(one, other) for number, wanted in zip(*numbers))


@contextlib.contextmanager
def short_time(seconds=20):
    """Fail if what is done within takes longer than this."""
    def too_long(number, place):
        raise AssertionError("this takes too long")

    kept = signal.signal(signal.SIGALRM, too_long)
    signal.alarm(seconds)
    try:
        yield
    finally:
        signal.alarm(0)
        signal.signal(signal.SIGALRM, kept)
