"""Webs that splits make of a heading, and the tables that come back from their sums onto a web."""

from agreetwo.broken import core_table
from agreetwo.errors import TooMany
from agreetwo.families import sums
from agreetwo.headings import lies_within, shared, together
from agreetwo.joints import join
from agreetwo.splits import rest_of
from agreetwo.webs import MOST_HEADINGS


def pieces_of(one, split, rest):
    """The list of the two headings into which a split with this rest parts one; of one alone if it does not."""
    given, side = split
    inside, outside = shared(one, side), shared(one, rest)
    if not lies_within(given, one) or inside == () or outside == ():
        return [one]
    return [together(given, inside), together(given, outside)]


def parted_web(heading, told):
    """The web that the splits told, in order, make of the heading; TooMany() beyond seven headings."""
    web = (heading,)
    for split in told:
        rest = rest_of(heading, split)
        web = tuple([piece for one in web for piece in pieces_of(one, split, rest)])
        # Headings never go, so a look at the end would tell the same; but until then they could double each time.
        if len(web) > MOST_HEADINGS:
            raise TooMany()
    return web


def added(web, table):
    """The first row of the join of the table's sums that is none of its rows; None if there is none."""
    new = [row for row in join(sums(web, table)) if row not in table]
    return new[0] if new else None


def joins_back(web, table):
    """Whether the table's rows are those of the join of its sums."""
    return added(web, table) is None


def unsplit(web):
    """The table that has each split that the web must have, and does not join back; Folds(pairs) if the web folds."""
    return core_table(web, "even")
