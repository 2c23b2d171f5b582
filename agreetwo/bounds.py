"""How many times each whole of a family has a row at least and at most, and a whole that has it just so often."""

from agreetwo.cores import folded
from agreetwo.ears import root
from agreetwo.errors import BadGroup, BadNumber, BadRow
from agreetwo.headings import is_row, lies_within, part, put_together, together
from agreetwo.joints import by_part, paired
from agreetwo.products import seam_sums
from agreetwo.tables import Table, summed
from agreetwo.trees import tree_of
from agreetwo.values import is_number
from agreetwo.webs import columns_of, is_number_in
from agreetwo.wholes import agreed_folding


def counts_of_parts(columns, row, tables):
    """The list of the counts that the tables have of a row's parts."""
    return [table.times(part(columns, row, table.heading())) for table in tables]


def limits(columns, tables, seamed, row):
    """The pair of the least and the greatest count of a row, by the tables and by their sums onto the seams."""
    counts = counts_of_parts(columns, row, tables)
    return max(0, sum(counts) - sum(counts_of_parts(columns, row, seamed))), min(counts)


def limits_in(web, family, row):
    """The least and the greatest count of a row, any value, in the wholes of the family, with all errors."""
    tree, columns = tree_of(agreed_folding(web, family)), columns_of(web)
    if not is_row(columns, row):
        raise BadRow(0)
    return limits(columns, family, seam_sums(web, tree, family), row)


def least(web, family, row):
    """How many times each whole has the row at least."""
    return limits_in(web, family, row)[0]


def greatest(web, family, row):
    """How many times each whole has the row at most."""
    return limits_in(web, family, row)[1]


def left_behind(entries, row, n):
    """Two lists of pairs (row, count): the others, and what is left of this row when it is taken n times."""
    others = [(one, count) for one, count in entries if one != row]
    return others, [(one, count - n) for one, count in entries if one == row and count > n]


def joint_with(one, other, row, mate, n):
    """The joint of two tables that has the row made of row and mate, which go together, just n times.

    What is left of row comes first and what is left of mate comes last: so the two do not meet again.
    """
    left, right = one.heading(), other.heading()
    rows, mates = by_part(one, right), by_part(other, left)
    counts = [(put_together(left, row, right, mate), n)]
    for seen in rows:
        others, rest = left_behind(rows[seen], row, n)
        mate_others, mate_rest = left_behind(mates[seen], mate, n)
        for first, second, times in paired(rest + others, mate_others + mate_rest):
            counts.append((put_together(left, first, right, second), times))
    return Table(together(left, right), counts)


def whole_with(web, family, row, n):
    """The whole along the folding that has the row n times; BadNumber(n) for any n not from least to greatest."""
    low, high = limits_in(web, family, row)
    if not is_number(n) or not low <= n <= high:
        raise BadNumber(n)
    columns, pairs = columns_of(web), folded(web)
    made = family[root(web, pairs)]
    mate = part(columns, row, made.heading())
    told = made.times(mate)
    for x, y in pairs[::-1]:
        new, seamed = part(columns, row, web[x]), summed(family[x], web[y])
        told += family[x].times(new) - seamed.times(part(columns, row, seamed.heading()))
        made = joint_with(made, family[x], mate, new, max(n, told))
        mate = part(columns, row, made.heading())
    return made


def ties_among(tree, numbers):
    """Those ties of the tree that are between two of these headings."""
    return tuple([(x, y) for x, y in tree if x in numbers and y in numbers])


def is_group(web, tree, value):
    """Whether any value is a group: in a tree, ties one fewer than headings are what hangs these together."""
    if not isinstance(value, tuple) or value == () or not all([is_number_in(web, x) for x in value]):
        return False
    if not all([value[k] < value[k + 1] for k in range(len(value) - 1)]):
        return False
    return len(ties_among(tree, value)) == len(value) - 1


def bounds_over(web, family, group, row):
    """The least and the greatest count of a row over the columns of a group's headings, both any values."""
    tree = tree_of(agreed_folding(web, family))
    if not is_group(web, tree, group):
        raise BadGroup()
    columns = columns_of(tuple([web[x] for x in group]))
    if not is_row(columns, row):
        raise BadRow(0)
    return limits(columns, [family[x] for x in group], seam_sums(web, ties_among(tree, group), family), row)


def groups_over(web, columns):
    """The ascending list of the groups of headings within columns that no other such group goes beyond."""
    tree = tree_of(folded(web))
    numbers = [x for x in range(len(web)) if lies_within(web[x], columns)]
    groups = [(x,) for x in numbers]
    for tie in ties_among(tree, numbers):
        ends = [group for group in groups if tie[0] in group or tie[1] in group]
        groups = [group for group in groups if group not in ends] + [tuple(sorted(ends[0] + ends[1]))]
    return sorted(groups)
