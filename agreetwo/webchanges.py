"""Webs that change: headings and columns that come, go or get other names, and webs that are glued."""

from agreetwo.errors import BadHeading, BadName, BadNumber, TooMany, UnknownColumn
from agreetwo.headings import MOST_COLUMNS, beyond, is_heading, is_word, lies_within, shared
from agreetwo.webs import MOST_HEADINGS, columns_of, is_number_in


def must_have_room(web):
    """None; TooMany() if there are more headings or columns than a web may have."""
    if len(web) > MOST_HEADINGS or len(columns_of(web)) > MOST_COLUMNS:
        raise TooMany()


def with_heading(web, heading):
    """The web with the heading, any value, behind its own; BadHeading(heading), then TooMany()."""
    if not is_heading(heading):
        raise BadHeading(heading)
    made = web + (heading,)
    must_have_room(made)
    return made


def without_heading(web, x):
    """The web without heading x, any value; BadNumber(x) if there is no such heading, or no other one."""
    if not is_number_in(web, x) or len(web) == 1:
        raise BadNumber(x)
    return web[:x] + web[x + 1:]


def without_column(web, column):
    """The web in which no heading has the column, any value; UnknownColumn(column) if none has it."""
    if column not in columns_of(web):
        raise UnknownColumn(column)
    return tuple([beyond(heading, (column,)) for heading in web])


def renamed_heading(heading, called):
    """The heading in which each column has the name that the dict tells, in order anew."""
    return tuple(sorted([called[column] for column in heading]))


def is_free(called, column):
    """Whether the new name of a column is a word that no other column has then."""
    others = [called[other] for other in called if other != column]
    return is_word(called[column]) and called[column] not in others


def renamed(web, names):
    """The web in which each column that is a key of names is called as names tells; BadName(name)."""
    columns = columns_of(web)
    called = {column: names.get(column, column) for column in columns}
    for column in columns:
        if column in names and not is_free(called, column):
            raise BadName(called[column])
    return tuple([renamed_heading(heading, called) for heading in web])


def glued(one, other, x, y):
    """The web of one's headings and of other's but for y, which is heading x of one; BadNumber(x or y), TooMany()."""
    if not is_number_in(one, x):
        raise BadNumber(x)
    if not is_number_in(other, y) or other[y] != one[x]:
        raise BadNumber(y)
    if not lies_within(shared(columns_of(one), columns_of(other)), one[x]):
        raise BadNumber(y)
    made = one + other[:y] + other[y + 1:]
    must_have_room(made)
    return made
