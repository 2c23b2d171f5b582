"""Columns, headings and the rows over them."""

from agreetwo.values import is_number

LETTERS = "abcdefghijklmnopqrstuvwxyz"
MOST_LETTERS = 8
MOST_COLUMNS = 8
MOST_VALUE = 99


def is_word(value):
    """Whether any value is a word, which is what a column is."""
    return isinstance(value, str) and 1 <= len(value) <= MOST_LETTERS and all([sign in LETTERS for sign in value])


def is_heading(value):
    """Whether any value is a heading."""
    if not isinstance(value, tuple) or len(value) > MOST_COLUMNS:
        return False
    if not all([is_word(column) for column in value]):
        return False
    return all([value[k] < value[k + 1] for k in range(len(value) - 1)])


def is_row(heading, value):
    """Whether any value is a row over the heading."""
    if not isinstance(value, tuple) or len(value) != len(heading):
        return False
    return all([is_number(worth) and 0 <= worth <= MOST_VALUE for worth in value])


def shared(one, other):
    """The heading of the columns that are in both."""
    return tuple([column for column in one if column in other])


def beyond(one, other):
    """The heading of the columns that are in the first alone."""
    return tuple([column for column in one if column not in other])


def together(one, other):
    """The heading of the columns that are in one or both."""
    return tuple(sorted(one + beyond(other, one)))


def lies_within(one, other):
    """Whether each column of one is a column of other."""
    return beyond(one, other) == ()


def part(heading, row, columns):
    """The row over shared(heading, columns) that has the row's values."""
    return tuple([worth for column, worth in zip(heading, row) if column in columns])


def put_together(one, row, other, mate):
    """The row over together(one, other) made of a row over each, which are alike where both have a column."""
    columns, worths = one + other, row + mate
    return tuple([worths[columns.index(column)] for column in together(one, other)])
