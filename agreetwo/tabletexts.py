"""Tables as texts: "[a b] (0 1) 5 (2 2) 1".

The functions that read take a text and a place in it and return what stands there and the place behind it. They
look at one character after the other, so the place at which one stops is the first that no right text goes on with.
"""

from agreetwo.errors import BadHeading, BadRow, BadText
from agreetwo.headings import LETTERS, MOST_LETTERS, is_heading
from agreetwo.tables import Table

FIGURES = "0123456789"
MOST_FIGURES = 80


def heading_text(heading):
    """A heading's columns in brackets."""
    return "[" + " ".join(heading) + "]"


def row_text(row):
    """A row's values in parentheses."""
    return "(" + " ".join([str(worth) for worth in row]) + ")"


def table_text(table):
    """The text of a table."""
    entries = [f" {row_text(row)} {count}" for row, count in table.counts()]
    return heading_text(table.heading()) + "".join(entries)


def behind_sign(text, at, sign):
    """The place behind the one sign that may stand at this place."""
    if text[at:at + 1] != sign:
        raise BadText(at)
    return at + 1


def end_of_run(text, at, signs, most):
    """Where the longest run of at least one and at most so many of the signs ends that begins at this place."""
    end = at
    while end < len(text) and end - at < most and text[end] in signs:
        end += 1
    if end == at:
        raise BadText(at)
    return end


def read_columns(text):
    """The columns in brackets at the beginning, as they stand."""
    at = behind_sign(text, 0, "[")
    if text[at:at + 1] == "]":
        return (), at + 1
    columns = []
    while True:
        end = end_of_run(text, at, LETTERS, MOST_LETTERS)
        columns.append(text[at:end])
        if text[end:end + 1] == "]":
            return tuple(columns), end + 1
        at = behind_sign(text, end, " ")


def read_value(text, at):
    """A number from 0 to 99 without leading zeros."""
    most = 1 if text[at:at + 1] == "0" else 2
    end = end_of_run(text, at, FIGURES, most)
    return int(text[at:end]), end


def read_row(text, at, width):
    """A blank and a row of so many values in parentheses."""
    at = behind_sign(text, at, " ")
    at = behind_sign(text, at, "(")
    row = []
    for k in range(width):
        if k > 0:
            at = behind_sign(text, at, " ")
        worth, at = read_value(text, at)
        row.append(worth)
    return tuple(row), behind_sign(text, at, ")")


def read_count(text, at):
    """A blank and a number from 1 on of at most eighty figures, without leading zeros."""
    at = behind_sign(text, at, " ")
    if text[at:at + 1] == "0":
        raise BadText(at)
    end = end_of_run(text, at, FIGURES, MOST_FIGURES)
    return int(text[at:end]), end


def read_table(text):
    """The table of a text, any value."""
    if not isinstance(text, str):
        raise BadText(0)
    heading, at = read_columns(text)
    counts = []
    while at < len(text):
        row, at = read_row(text, at, len(heading))
        count, at = read_count(text, at)
        counts.append((row, count))
    if not is_heading(heading):
        raise BadHeading(heading)
    for k in range(1, len(counts)):
        if counts[k][0] <= counts[k - 1][0]:
            raise BadRow(k)
    return Table(heading, counts)
