"""What the document says of families, plans, products and splits, way by way: slow, and straight from its words."""

import copy
import itertools
from fractions import Fraction

from agreetwo.tables import Table, summed


def values_of(heading, row):
    return dict(zip(heading, row))


def agree_on_shared(one, row, other, mate):
    """Whether two rows have equal parts over the columns that their headings share."""
    left, right = values_of(one, row), values_of(other, mate)
    return all(left[column] == right[column] for column in set(one) & set(other))


def go_together(web, rows):
    pairs = itertools.combinations(range(len(web)), 2)
    return all(agree_on_shared(web[x], rows[x], web[y], rows[y]) for x, y in pairs)


def all_picks(web, lots):
    """All tuples of rows, one of each lot, that go together."""
    return [rows for rows in itertools.product(*lots) if go_together(web, rows)]


def all_columns(web):
    return tuple(sorted({column for heading in web for column in heading}))


def join_rows(web, family):
    """All rows of the join, ascending."""
    columns, found = all_columns(web), set()
    for rows in all_picks(web, [table.rows() for table in family]):
        told = {}
        for heading, row in zip(web, rows):
            told.update(values_of(heading, row))
        found.add(tuple(told[column] for column in columns))
    return sorted(found)


def part_of(columns, row, heading):
    told = values_of(columns, row)
    return tuple(told[column] for column in heading if column in told)


def first_lost(web, family):
    lots = [table.rows() for table in family]
    picks = all_picks(web, lots)
    for x, lot in enumerate(lots):
        for row in lot:
            if not any(rows[x] == row for rows in picks):
                return x, row
    return None


def clean_tables(web, family):
    """For each table whether each of its rows is part of a row of the join."""
    picks = all_picks(web, [table.rows() for table in family])
    return [all(any(rows[x] == row for rows in picks) for row in table) for x, table in enumerate(family)]


def walk(web, family, plan):
    """The family behind the plan, and how many rows each step takes away."""
    tables, numbers = list(family), []
    for x, y in plan:
        kept = [(row, n) for row, n in tables[x].counts()
                if any(agree_on_shared(web[x], row, web[y], mate) for mate in tables[y])]
        numbers.append(len(tables[x]) - len(kept))
        tables[x] = Table(web[x], kept)
    return tables, numbers


def tree_list(web, plan, x):
    """The nodes of x's tree behind the plan, by trees that are copied each time."""
    trees = [[y, []] for y in range(len(web))]
    for a, b in plan:
        trees[a][1].append(copy.deepcopy(trees[b]))
    nodes = []

    def lay(tree, above):
        nodes.append((tree[0], above))
        place = len(nodes) - 1
        for piece in tree[1]:
            lay(piece, place)
    lay(trees[x], None)
    return nodes


def rows_of_nodes(web, tree):
    rows = []
    for place, (bears, above) in enumerate(tree):
        row = []
        for column in web[bears]:
            if above is not None and column in web[tree[above][0]]:
                row.append(values_of(web[tree[above][0]], rows[above])[column])
            else:
                ahead = [values_of(web[tree[k][0]], rows[k]).get(column) for k in range(place)]
                row.append(min(n for n in range(100) if n not in ahead))
        rows.append(tuple(row))
    return rows


def first_nodes(web, tree, x):
    """The first tuple of places, one for each heading and 0 for x, whose rows agree two by two; None if none."""
    rows = rows_of_nodes(web, tree)
    places = [[k for k, node in enumerate(tree) if node[0] == y] for y in range(len(web))]
    places[x] = [0]
    for nodes in itertools.product(*places):
        if go_together(web, [rows[k] for k in nodes]):
            return nodes
    return None


def product_along(web, tree, family, row):
    """The product of a row, as a Fraction of Python's own."""
    columns = all_columns(web)
    made = Fraction(1)
    for heading, table in zip(web, family):
        made *= Fraction(table.times(part_of(columns, row, heading)), table.total())
    if made == 0:
        return made
    for x, y in tree:
        seam = tuple(column for column in web[x] if column in web[y])
        made /= Fraction(summed(family[x], seam).times(part_of(columns, row, seam)), family[x].total())
    return made


def pair(made):
    """A Fraction of Python's own as the package writes it."""
    return (made.numerator, made.denominator)


def all_headings(columns):
    """All headings of some of the columns."""
    return [chosen for many in range(len(columns) + 1) for chosen in itertools.combinations(sorted(columns), many)]


def all_splits(heading):
    """All splits of a heading."""
    found = []
    for given in all_headings(heading):
        beyond = [column for column in heading if column not in given]
        found.extend([(given, side) for side in all_headings(beyond) if 0 < len(side) < len(beyond)])
    return found


def split_holes(table, split):
    """All rows that the table has not, though it has their parts over both sides."""
    heading, (given, side) = table.heading(), split
    rest = [column for column in heading if column not in given and column not in side]
    found = []
    for one in table:
        for other in table:
            left, right = values_of(heading, one), values_of(heading, other)
            if all(left[column] == right[column] for column in given):
                row = tuple(right[column] if column in rest else left[column] for column in heading)
                if row not in table:
                    found.append(row)
    return sorted(set(found))


def all_tables_of(web, family):
    """All wholes of a family of a small total, as lists of pairs (row, count), ascending; row by row of the join."""
    columns = all_columns(web)
    rows = join_rows(web, family)
    parts = [[part_of(columns, row, heading) for heading in web] for row in rows]
    # Where no row is to come that has a part, nothing may be left of this part: this leaves out what leads nowhere.
    last = [{told[x]: k for k, told in enumerate(parts)} for x in range(len(web))]
    found = []

    def go_on(k, left, counts):
        if k == len(rows):
            found.append(counts)
            return
        ends = [x for x in range(len(web)) if last[x][parts[k][x]] == k]
        for n in range(min(left[x][parts[k][x]] for x in range(len(web))) + 1):
            if all(left[x][parts[k][x]] == n for x in ends):
                rest = [{**told, small: told[small] - n} for told, small in zip(left, parts[k])]
                go_on(k + 1, rest, counts + [(rows[k], n)] if n else counts)
    if all(row in last[x] for x, table in enumerate(family) for row in table):
        go_on(0, [dict(table.counts()) for table in family], [])
    return sorted(found)


def count_in(counts, row):
    """How often a list of pairs (row, count) has the row."""
    return dict(counts).get(row, 0)


def sum_of(columns, counts, heading):
    """The dict from rows over the heading to their counts in the sum of a list of pairs (row, count)."""
    found = {}
    for row, count in counts:
        small = part_of(columns, row, heading)
        found[small] = found.get(small, 0) + count
    return found
