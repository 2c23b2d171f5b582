"""Two tables, or several, put together to one over all their columns."""

from agreetwo.errors import Disagree, TooMany
from agreetwo.headings import part, put_together, together
from agreetwo.tables import Table, agree

MOST_ROWS = 600


def by_part(table, columns):
    """The dict from parts over columns to the lists, ascending, of the pairs (row, count) that have them."""
    heading = table.heading()
    found = {}
    for row, count in table.counts():
        found.setdefault(part(heading, row, columns), []).append((row, count))
    return found


def paired(left, right):
    """Triples (row, row, n): the first rows of two lists of (row, count), as often as both are left, and so on.

    The counts of both lists come to the same, so both end at once.
    """
    triples = []
    j, k, used, taken = 0, 0, 0, 0
    while j < len(left):
        row, count = left[j]
        mate, most = right[k]
        n = min(count - used, most - taken)
        triples.append((row, mate, n))
        used, taken = used + n, taken + n
        if used == count:
            j, used = j + 1, 0
        if taken == most:
            k, taken = k + 1, 0
    return triples


def joint(one, other):
    """The table over the columns of both of which two tables that agree are the sums."""
    unlike = agree(one, other)
    if unlike is not None:
        raise Disagree(None, None, unlike)
    left, right = one.heading(), other.heading()
    rows, mates = by_part(one, right), by_part(other, left)
    counts = []
    for seen in rows:
        for row, mate, n in paired(rows[seen], mates[seen]):
            counts.append((put_together(left, row, right, mate), n))
    return Table(together(left, right), counts)


def joined(one, other):
    """The table that has, once each, all rows whose parts are rows of both; TooMany() beyond 600 rows."""
    left, right = one.heading(), other.heading()
    mates = by_part(other, left)
    counts = []
    for row in one:
        for mate, _ in mates.get(part(left, row, right), []):
            # The rows are counted while they are found, so that no join grows far beyond what it may have.
            if len(counts) == MOST_ROWS:
                raise TooMany()
            counts.append((put_together(left, row, right, mate), 1))
    return Table(together(left, right), counts)


def join(tables):
    """The table that has, once each, all rows over all columns whose part over each heading is a row there."""
    gathered = Table((), [((), 1)])
    for table in tables:
        gathered = joined(gathered, table)
    return gathered
