"""Exchanges: two rows of a table turned to two others, such that no heading of a web sees it."""

from agreetwo.errors import BadExchange, TooFew
from agreetwo.headings import beyond, is_heading, is_row, lies_within, shared
from agreetwo.tables import Table
from agreetwo.values import is_number
from agreetwo.webs import columns_of


def turned(columns, one, other, side):
    """The row one with other's values at side."""
    return tuple([worth if column in side else own for column, own, worth in zip(columns, one, other)])


def must_be_unseen(web, one, other, side):
    """None; BadExchange(number) of a heading that sees a part of what is turned, then BadExchange(None) if none is."""
    unlike = tuple([column for column, own, worth in zip(columns_of(web), one, other) if own != worth])
    for x, heading in enumerate(web):
        visible = shared(heading, unlike)
        if shared(visible, side) != () and beyond(visible, side) != ():
            raise BadExchange(x)
    if shared(unlike, side) == () or beyond(unlike, side) == ():
        raise BadExchange(None)


def exchanged(web, table, exchange):
    """The table behind the exchange; BadExchange(number), BadExchange(None), TooFew(row)."""
    one, other, side, n = exchange
    must_be_unseen(web, one, other, side)
    for row in (one, other):
        if table.times(row) < n:
            raise TooFew(row)
    columns = columns_of(web)
    taken = Table(columns, [(one, n), (other, n)])
    return table - taken + Table(columns, [(turned(columns, one, other, side), n),
                                           (turned(columns, other, one, side), n)])


def is_exchange(web, value):
    """Whether any value has the form of an exchange of the web."""
    if not isinstance(value, tuple) or len(value) != 4:
        return False
    one, other, side, n = value
    columns = columns_of(web)
    if not is_row(columns, one) or not is_row(columns, other):
        return False
    return is_heading(side) and lies_within(side, columns) and is_number(n) and n >= 1


def judge_exchanges(web, table, value, other):
    """None if any value is a tuple of exchanges that lead the table to other, else what is wrong with it."""
    if not isinstance(value, tuple):
        return "form", None
    for k, exchange in enumerate(value):
        if not is_exchange(web, exchange):
            return "form", k
    made = table
    for k, exchange in enumerate(value):
        try:
            made = exchanged(web, made, exchange)
        except (BadExchange, TooFew):
            return "exchange", k
    return None if made == other else ("end",)
