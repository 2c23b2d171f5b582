"""Webs: tuples of headings that overlap."""

from agreetwo.headings import MOST_COLUMNS, is_heading, lies_within, shared
from agreetwo.values import is_number

MOST_HEADINGS = 7


def is_web(value):
    """Whether any value is a web."""
    if not isinstance(value, tuple) or not 1 <= len(value) <= MOST_HEADINGS:
        return False
    if not all([is_heading(heading) for heading in value]):
        return False
    return len(columns_of(value)) <= MOST_COLUMNS


def columns_of(web):
    """The heading of all columns that stand in the web."""
    return tuple(sorted({column for heading in web for column in heading}))


def cut(web, columns):
    """The web in which each heading has those of its columns alone that are among columns."""
    return tuple([shared(heading, columns) for heading in web])


def is_outdone(web, x, y):
    """Whether heading y is why heading x is none of the largest: it has more, or the same with a lesser number."""
    if not lies_within(web[x], web[y]):
        return False
    return web[x] != web[y] or y < x


def largest(web):
    """The numbers of the headings that lie within no other one, of equal ones the first alone."""
    return [x for x in range(len(web)) if not any([is_outdone(web, x, y) for y in range(len(web))])]


def is_number_in(web, value):
    """Whether any value is the number of a heading."""
    return is_number(value) and 0 <= value < len(web)


def is_pair_in(web, value):
    """Whether any value is a pair of numbers of headings."""
    return isinstance(value, tuple) and len(value) == 2 and all([is_number_in(web, x) for x in value])


def are_pairs_in(web, value):
    """Whether any value is a tuple of pairs of numbers of headings, one fewer than there are headings."""
    if not isinstance(value, tuple) or len(value) != len(web) - 1:
        return False
    return all([is_pair_in(web, pair) for pair in value])
