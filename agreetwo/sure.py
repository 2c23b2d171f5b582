"""What all wholes of a family have, what they may have, and how to show that there are several."""

from agreetwo.bounds import limits, whole_with
from agreetwo.broken import core_table, marked_row
from agreetwo.cores import folded
from agreetwo.families import is_table_over, sums
from agreetwo.joints import join
from agreetwo.products import seam_sums
from agreetwo.tables import first_unlike, summed
from agreetwo.trees import tree_of
from agreetwo.webs import columns_of
from agreetwo.wholes import agreed_folding, whole


def limited(web, family, table):
    """The list of the triples (row, least, greatest) of a table's rows, the web folding and the family agreeing."""
    columns, seamed = columns_of(web), seam_sums(web, tree_of(folded(web)), family)
    triples = []
    for row in table:
        low, high = limits(columns, family, seamed, row)
        triples.append((row, low, high))
    return triples


def surely(web, family):
    """The list of the pairs (row, k) of all rows that each whole has at least k times, k above 0."""
    # One whole has all of these rows: so there is no need to look at any others, and no join is made.
    return [(row, low) for row, low, _ in limited(web, family, whole(web, family)) if low > 0]


def open_rows(web, family):
    """The list of the triples (row, least, greatest) of all rows of the join for which these two are unlike."""
    # The errors of whole come first, and then that of the join.
    agreed_folding(web, family)
    return [(row, low, high) for row, low, high in limited(web, family, join(family)) if low < high]


def two_unlike(web, family):
    """None if there is one whole alone, else two: with the first open row as seldom and as often as can be."""
    triples = open_rows(web, family)
    if not triples:
        return None
    row, low, high = triples[0]
    return whole_with(web, family, row, low), whole_with(web, family, row, high)


def is_settled(web, family):
    """Whether there is just one whole."""
    return open_rows(web, family) == []


def judge_sums(web, family, k, table):
    """None if the table is a whole, else ("sum", k, x, row) of the first heading and row that show that it is none."""
    for x, heading in enumerate(web):
        row = first_unlike(summed(table, heading), family[x])
        if row is not None:
            return "sum", k, x, row
    return None


def judge_unlike(web, family, value):
    """None if any value is a tuple of two unlike wholes of the family, else what is wrong with it."""
    columns = columns_of(web)
    if not isinstance(value, tuple) or len(value) != 2 or not all([is_table_over(columns, one) for one in value]):
        return ("form",)
    for k, table in enumerate(value):
        told = judge_sums(web, family, k, table)
        if told is not None:
            return told
    return ("same",) if value[0] == value[1] else None


def spoiled(web):
    """(family, row): each table has the row's part, but no whole has the row; Folds(pairs) if the web folds."""
    return sums(web, core_table(web, "unit")), marked_row(columns_of(web), ())
