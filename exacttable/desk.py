"""A desk: it has a frame, is told rows of text, and answers each with a text."""

from exacttable.bounds import bounds
from exacttable.counts import counted, number_of, table_at
from exacttable.errors import NoLine, NoText
from exacttable.frames import Frame
from exacttable.one import one_or_none
from exacttable.order import first_table, following, last_table
from exacttable.shares import share
from exacttable.tabletexts import is_number_text, read_table, row_text, table_text
from exacttable.ways import led
from exacttable.weights import whole

MOST_FIGURES = 60
KIND_WORDS = ("once", "ways")


def parted(text, sign, many):
    """Return the parts of a text between signs, or refuse where there are not so many."""
    parts = text.split(sign)
    if len(parts) != many:
        raise NoLine("this is no row that a desk answers")
    return parts


def read_count(text):
    """Return a whole number from 0 on that is written, however great it is."""
    if not is_number_text(text, MOST_FIGURES):
        raise NoLine("a number is written in one to sixty figures, without noughts ahead")
    return int(text)


def read_whole(text):
    """Return a whole number that is written, also one below 0."""
    if not text.startswith("-"):
        return read_count(text)
    number = read_count(text[1:])
    if number == 0:
        raise NoLine("0 is written without a sign")
    return -number


def read_cap(text):
    """Return a cap that is written, None where it is a mere sign."""
    if text == "-":
        return None
    return read_count(text)


def read_sums(text):
    """Return row sums or column sums that are written."""
    return [read_count(part) for part in text.split(" ")]


def row_texts(text):
    """Return the texts of the numbers in rows that are written as a table's are, be they alike in length or not."""
    return [row.split(" ") for row in text.split("; ")]


def table_in(text):
    """Return the table that is written in a row."""
    try:
        return read_table(text)
    except NoText:
        raise NoLine("a table is not written as it is to be") from None


def kind_in(text):
    """Return the kind of weights that a row tells by its word."""
    if text not in KIND_WORDS:
        raise NoLine("a desk knows the kinds once and ways")
    return (text,)


def table_or_none(table):
    """Return a table's text, or the word for None."""
    if table is None:
        return "none"
    return table_text(table)


def told_one(frame):
    """Answer with a table of the frame, or with a paper that shows that there is none."""
    told = one_or_none(frame)
    if told[0] == "table":
        return "table " + table_text(told[1])
    word, some, others = told
    return word + " " + row_text(some) + " / " + row_text(others)


def told_first(frame):
    """Answer with the first table."""
    return table_or_none(first_table(frame))


def told_last(frame):
    """Answer with the last table."""
    return table_or_none(last_table(frame))


def told_count(frame):
    """Answer with how many tables there are."""
    return str(counted(frame))


def told_next(frame, text):
    """Answer with the table next behind a told one."""
    return table_or_none(following(frame, table_in(text)))


def told_number(frame, text):
    """Answer with the number of a told table."""
    return str(number_of(frame, table_in(text)))


def told_at(frame, text):
    """Answer with the table of a told number."""
    return table_text(table_at(frame, read_whole(text)))


def told_way(frame, text):
    """Answer with the steps from a told table to another one."""
    one, other = [table_in(part) for part in parted(text, " / ", 2)]
    steps = led(frame, one, other)
    if not steps:
        return "none"
    return "; ".join([row_text(step) for step in steps])


def told_bounds(frame, text):
    """Answer with the least and the greatest number of a told cell."""
    row, column = [read_whole(part) for part in parted(text, " ", 2)]
    least, greatest, one, other = bounds(frame, row, column)
    return row_text([least, greatest])


def told_whole(frame, text):
    """Answer with what all tables weigh together by a told kind."""
    return str(whole(frame, kind_in(text)))


def told_share(frame, text):
    """Answer with the share of the tables that have at least a told score."""
    asked, score_text = parted(text, " / ", 2)
    least_text, kind_text = parted(asked, " ", 2)
    least, kind = read_whole(least_text), kind_in(kind_text)
    scores = [[read_whole(part) for part in row] for row in row_texts(score_text)]
    above, below = share(frame, scores, least, kind)
    return str(above) + "/" + str(below)


def told_frame(frame, text):
    """Return the frame of told sums, without caps."""
    rows, columns = [read_sums(part) for part in parted(text, " / ", 2)]
    return Frame(rows, columns)


def told_caps(frame, text):
    """Return the frame with told caps in place of those that it has."""
    caps = [[read_cap(part) for part in row] for row in row_texts(text)]
    return Frame(frame.rows(), frame.columns(), caps)


# Rows of one word alone, rows that ask for something behind their word, and rows that tell the frame.
WORDS = {"one": told_one, "first": told_first, "last": told_last, "count": told_count}
ASKED = {"next": told_next, "number": told_number, "at": told_at, "way": told_way, "bounds": told_bounds,
         "whole": told_whole, "share": told_share}
TOLD = {"frame": told_frame, "caps": told_caps}


class Desk:
    """A desk with a frame, at first that of a row sum of 0 and a column sum of 0."""

    def __init__(self):
        self.frame = Frame([0], [0])

    def say(self, row):
        """Return the answer to a row of text."""
        if not isinstance(row, str):
            raise NoLine("a row is a text")
        if row in WORDS:
            answer = WORDS[row]
            return answer(self.frame)
        word, blank, text = row.partition(" ")
        if word in ASKED:
            answer_to = ASKED[word]
            return answer_to(self.frame, text)
        if word in TOLD:
            made_frame = TOLD[word]
            self.frame = made_frame(self.frame, text)
            return "ok"
        raise NoLine("this is no row that a desk answers")
