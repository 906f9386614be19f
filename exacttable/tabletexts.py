"""Tables as texts: written, and read back just as they are written."""

from exacttable.checks import GREATEST
from exacttable.errors import NoText
from exacttable.tables import has_table_form, wanted_table

FIGURES = "0123456789"


def row_text(row):
    """Return a row's numbers in figures."""
    return " ".join([str(number) for number in row])


def table_text(table):
    """Return a table's text."""
    return "; ".join([row_text(row) for row in wanted_table(table)])


def is_number_text(text, longest):
    """Tell whether these are figures without noughts ahead, and no more of them than so many."""
    # The length comes first, for Python won't turn figures by the thousand into a number.
    if not 1 <= len(text) <= longest:
        return False
    if not all([sign in FIGURES for sign in text]):
        return False
    return text == "0" or text[0] != "0"


def read_number(text):
    """Return the number that is written, or refuse what is none."""
    if not is_number_text(text, len(str(GREATEST))):
        raise NoText("a number is written in figures, without noughts ahead and without a sign")
    return int(text)


def read_row(text):
    """Return the numbers of a row that is written."""
    return [read_number(part) for part in text.split(" ")]


def read_table(text):
    """Return the table that is written, or refuse what is none."""
    if not isinstance(text, str):
        raise NoText("this is no text")
    rows = [read_row(part) for part in text.split("; ")]
    if not has_table_form(rows):
        raise NoText("a table has one to six rows, alike in length, of one to six whole numbers from 0 to 10 ** 12")
    return rows
