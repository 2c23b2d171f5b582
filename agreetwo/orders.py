"""Orders in which the columns of a web are taken out, and the headings that are made on the way.

What is left when some columns are taken out is the same whichever of them goes first: headings that hang together
by these columns are one, without them. So the widths are told for each heading of columns left, not for each order.
"""

from agreetwo.cores import choices
from agreetwo.headings import beyond, lies_within, together
from agreetwo.webs import columns_of, largest


def made_of(lot, column):
    """The heading of all columns of those headings of the lot that have the column."""
    made = ()
    for heading in lot:
        if column in heading:
            made = together(made, heading)
    return made


def lot_behind(lot, column):
    """The lot in which the headings that have the column have become one, without it."""
    return [heading for heading in lot if column not in heading] + [beyond(made_of(lot, column), (column,))]


def made_headings(web, order):
    """The list of the made headings, in the order's sequence."""
    lot, made = list(web), []
    for column in order:
        made.append(made_of(lot, column))
        lot = lot_behind(lot, column)
    return made


def width(web, order):
    """The greatest number of columns of a made heading."""
    return max([len(heading) for heading in made_headings(web, order)])


def filled(web, order):
    """The web of the made headings that lie within no other one, of alike ones the first."""
    made = tuple(made_headings(web, order))
    return tuple([made[k] for k in largest(made)])


def is_held(web, heading):
    """Whether the heading lies within a heading of the web."""
    return any([lies_within(heading, other) for other in web])


def is_order(web, value):
    """Whether any value is an order of the web."""
    columns = columns_of(web)
    if not isinstance(value, tuple) or len(value) != len(columns):
        return False
    return all([column in value for column in columns])


def judge_order(web, value):
    """None if any value is a clean order of the web, else what is wrong with it."""
    if not is_order(web, value):
        return ("form",)
    for k, heading in enumerate(made_headings(web, value)):
        if not is_held(web, heading):
            return "grows", k
    return None


def clean_order(web):
    """The first clean order, None if there is none."""
    left, lot, order = columns_of(web), list(web), ()
    # While only clean columns go, the lot folds just if the web does, and what folds always has a clean column: so
    # the first one is right each time, and nothing has to be taken back.
    while left:
        clean = [column for column in left if is_held(web, made_of(lot, column))]
        if not clean:
            return None
        order, left, lot = order + (clean[0],), beyond(left, (clean[0],)), lot_behind(lot, clean[0])
    return order


def lot_with(web, left):
    """The lot when these columns are left."""
    lot = list(web)
    for column in beyond(columns_of(web), left):
        lot = lot_behind(lot, column)
    return lot


def width_by(lot, left, column, widths):
    """The least width from a lot on, if this one of the columns left goes first; widths tells of fewer columns."""
    return max(len(made_of(lot, column)), widths[beyond(left, (column,))])


def least_widths(web):
    """The dict from the headings of columns that are left to the least width from there on."""
    columns = columns_of(web)
    widths = {(): 0}
    for many in range(1, len(columns) + 1):
        for left in choices(columns, many):
            lot = lot_with(web, left)
            widths[left] = min([width_by(lot, left, column, widths) for column in left])
    return widths


def least_width(web):
    """The least width of all orders."""
    return least_widths(web)[columns_of(web)]


def best_order(web):
    """The first order of the least width."""
    widths = least_widths(web)
    left, lot, order = columns_of(web), list(web), ()
    most = widths[left]
    while left:
        good = [column for column in left if width_by(lot, left, column, widths) <= most]
        order, left, lot = order + (good[0],), beyond(left, (good[0],)), lot_behind(lot, good[0])
    return order
