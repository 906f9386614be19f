"""Scores of tables, what the tables of each score weigh, and exact shares."""

from exacttable.checks import are_rows, is_whole
from exacttable.counts import narrow_tables, want_narrow
from exacttable.errors import NoNumber, NoScores, NoWhole
from exacttable.tables import wanted_table
from exacttable.weights import table_weight, wanted_weigher

GREATEST_SCORE = 10 ** 6


def is_score(thing):
    """Tell whether this is a whole number from -10 ** 6 to 10 ** 6."""
    return is_whole(thing) and -GREATEST_SCORE <= thing <= GREATEST_SCORE


def want_scores(thing, height, width):
    """Refuse what are no scores for so many rows and columns."""
    if not are_rows(thing, height, width) or not all([is_score(item) for row in thing for item in row]):
        raise NoScores("scores are rows of whole numbers from -10 ** 6 to 10 ** 6, one for each cell")


def want_scores_of(frame, thing):
    """Refuse what are no scores for the cells of a frame."""
    want_scores(thing, len(frame.rows()), len(frame.columns()))


def score(table, scores):
    """Return the sum of a table's numbers, each times its cell's score."""
    rows = wanted_table(table)
    want_scores(scores, len(rows), len(rows[0]))
    return sum([number * worth for numbers, worths in zip(rows, scores) for number, worth in zip(numbers, worths)])


def spread(frame, scores, kind):
    """Return, for each score that a table of a narrow frame has, what all its tables weigh together."""
    tables = narrow_tables(frame)
    want_scores_of(frame, scores)
    weigher = wanted_weigher(frame, kind)
    weights = {}
    for table in tables:
        reached = score(table, scores)
        weights[reached] = weights.get(reached, 0) + table_weight(weigher, table)
    return weights


def greatest_divisor(one, other):
    """Return the greatest number that divides both, of which one at least is above 0."""
    greater, lesser = one, other
    while lesser > 0:
        greater, lesser = lesser, greater % lesser
    return greater


def part_of(part_weight, whole_weight):
    """Return a part of the whole in lowest terms, or refuse where the whole is 0."""
    if whole_weight == 0:
        raise NoWhole("all tables together weigh 0")
    divisor = greatest_divisor(part_weight, whole_weight)
    return part_weight // divisor, whole_weight // divisor


def share(frame, scores, least, kind):
    """Return the share of the tables of a narrow frame that have at least such a score."""
    want_narrow(frame)
    want_scores_of(frame, scores)
    if not is_whole(least):
        raise NoNumber("the least score is a whole number")
    weights = spread(frame, scores, kind)
    return part_of(sum([weights[reached] for reached in weights if reached >= least]), sum(weights.values()))
