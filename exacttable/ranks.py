"""How a table of a narrow frame stands among all its tables, by their scores or by their weights."""

from exacttable.counts import narrow_tables, want_narrow
from exacttable.shares import part_of, score, spread
from exacttable.tables import wanted_table_of
from exacttable.weights import table_weight, wanted_weigher


def ranked(frame, table, scores, kind):
    """Return what tables with a lesser score than this one, with the same and with a greater one weigh together."""
    want_narrow(frame)
    rows = wanted_table_of(frame, table)
    weights = spread(frame, scores, kind)
    own = score(rows, scores)
    less = sum([weights[reached] for reached in weights if reached < own])
    more = sum([weights[reached] for reached in weights if reached > own])
    return less, weights[own], more


def as_rare(frame, table, kind):
    """Return the share of the tables of a narrow frame that weigh no more than this one."""
    tables = narrow_tables(frame)
    rows = wanted_table_of(frame, table)
    weigher = wanted_weigher(frame, kind)
    most = table_weight(weigher, rows)
    weights = [table_weight(weigher, some) for some in tables]
    return part_of(sum([one for one in weights if one <= most]), sum(weights))
