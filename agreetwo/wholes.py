"""Wholes of families, and the rows of a family's tables that go together.

A LOT is a list of rows over one heading; there is one for each heading of a web. Rows of several lots go together
if they are parts of one row over all columns, so they are looked for by putting such a row together.
"""

from agreetwo.cores import folded
from agreetwo.ears import root
from agreetwo.errors import Disagree
from agreetwo.families import disagreement
from agreetwo.headings import part, put_together
from agreetwo.joints import join, joint
from agreetwo.tables import meet, summed
from agreetwo.trees import seam
from agreetwo.webs import columns_of


def must_agree(web, family):
    """None; Disagree(x, y, row) if the family does not agree."""
    told = disagreement(web, family)
    if told is not None:
        x, y, row = told
        raise Disagree(x, y, row)


def agreed_folding(web, family):
    """The web's folding; Cored(core) if it does not fold, then Disagree(x, y, row) if the family does not agree."""
    pairs = folded(web)
    must_agree(web, family)
    return pairs


def whole_by(web, family, pairs):
    """The whole that is made from the root's table on along the pairs of a folding, the last pair first."""
    must_agree(web, family)
    made = family[root(web, pairs)]
    for x, _ in pairs[::-1]:
        made = joint(made, family[x])
    return made


def whole(web, family):
    """The whole that is made along the web's folding."""
    return whole_by(web, family, folded(web))


def bound(web, family):
    """How many rows the whole has at most: those of all tables, less those of the sums onto the folding's seams."""
    pairs = agreed_folding(web, family)
    seamed = [summed(family[x], seam(web, x, y)) for x, y in pairs]
    return sum([len(table) for table in family]) - sum([len(table) for table in seamed])


def must_meet(web, family):
    """None; Disagree(x, y, row) of the first two tables of the family that do not meet."""
    for x in range(len(web)):
        for y in range(x + 1, len(web)):
            row = meet(family[x], family[y])
            if row is not None:
                raise Disagree(x, y, row)


def whole_set(web, family):
    """The join of the family, whose tables meet, of a web that folds."""
    folded(web)
    must_meet(web, family)
    return join(family)


def kept_rows(heading, rows, other, mates):
    """Those of the rows over heading whose part on the shared columns is that of one of mates, rows over other."""
    found = {part(other, mate, heading): True for mate in mates}
    return [row for row in rows if part(heading, row, other) in found]


def thinned(web, lots):
    """The lots without the rows that fit no row of some other lot, until each row fits some row of each lot.

    No row that goes together with others is left out. If the web folds, all that stay go together with others; if
    not, so few stay as a rule that a look at the rest is short.
    """
    left = list(lots)
    while True:
        many = sum([len(rows) for rows in left])
        for x in range(len(web)):
            for y in range(len(web)):
                left[x] = kept_rows(web[x], left[x], web[y], left[y])
        if sum([len(rows) for rows in left]) == many:
            return left


def rows_by_part(heading, rows, columns):
    """The dict from parts over columns to the lists of the rows that have them, in their order."""
    found = {}
    for row in rows:
        found.setdefault(part(heading, row, columns), []).append(row)
    return found


def turns_of(web, lots):
    """For each heading, in order, what picking a row for it needs.

    This is the heading of all columns ahead of it, the heading of all columns from it on, its own heading, and the
    rows of its lot by their parts over the columns ahead.
    """
    turns = []
    for k, heading in enumerate(web):
        ahead = columns_of(web[:k])
        turns.append((ahead, columns_of(web[k:]), heading, rows_by_part(heading, lots[k], ahead)))
    return turns


def picked_from(turns, k, row, failed):
    """The first rows for the headings from k on that go together with row, over all columns ahead; None if none do.

    What is still to come sees of row just the columns that it has itself: so the dict failed bears the parts over
    these for which there is nothing, and none of them is gone through twice.
    """
    if k == len(turns):
        return ()
    ahead, coming, heading, rows = turns[k]
    key = (k, part(ahead, row, coming))
    if key in failed:
        return None
    for mate in rows.get(part(ahead, row, heading), []):
        rest = picked_from(turns, k + 1, put_together(ahead, row, heading, mate), failed)
        if rest is not None:
            return (mate,) + rest
    failed[key] = True
    return None


def first_pick(web, lots):
    """The first tuple of rows, one of each lot in its order, that go together; None if there is none."""
    return picked_from(turns_of(web, lots), 0, (), {})


def first_alone(web, lots, x):
    """The first row of lot x that goes together with no rows of the other lots; None if there is none."""
    left = thinned(web, lots)
    # The lot of x comes first, so that each row is there when the others are looked at.
    turned, mates = web[x:] + web[:x], left[x + 1:] + left[:x]
    for row in lots[x]:
        if row not in left[x] or first_pick(turned, [[row]] + mates) is None:
            return row
    return None


def lost(web, family):
    """None, or (x, row) of the first row of the first table that goes together with no rows of the others."""
    lots = [table.rows() for table in family]
    for x in range(len(web)):
        row = first_alone(web, lots, x)
        if row is not None:
            return x, row
    return None
