"""What the products of a family's join let be seen: columns that are apart, chances, and the likeliest rows.

Nothing here makes the join. A row's product is that of the counts of its parts, divided by the total and by the
counts on the seams; with the least common multiples of these counts as scales it is told by integers alone.
"""

from math import lcm

from agreetwo.broken import marked_table
from agreetwo.cores import folded
from agreetwo.errors import BadNumber, Empty, UnknownColumn
from agreetwo.families import sums
from agreetwo.fractions import fraction, is_fraction
from agreetwo.headings import part, put_together, together
from agreetwo.joints import by_part
from agreetwo.products import agreed_total
from agreetwo.questions import (added_weight, by_counts, by_value, fitting, greater_of_two, product_of_two,
                                row_at_weight, sum_of_two, weight_of_all)
from agreetwo.tables import summed
from agreetwo.trees import seam
from agreetwo.webs import columns_of


def apart(table, one, other, given):
    """None if one and other are apart given given in the table, else the first row over the three that shows it."""
    left, right = summed(table, together(given, one)), summed(table, together(given, other))
    both, alone = summed(table, together(left.heading(), other)), summed(table, given)
    mates = by_part(right, given)
    found = []
    for row, count in left.counts():
        middle = part(left.heading(), row, given)
        times_middle = alone.times(middle)
        for mate, mate_count in mates[middle]:
            made = put_together(left.heading(), row, right.heading(), mate)
            if count * mate_count != both.times(made) * times_middle:
                found.append(made)
    return min(found, default=None)


def neighbours(web, column):
    """The ascending list of the columns that stand in a heading together with this one."""
    return [other for other in columns_of(web)
            if other != column and any([column in heading and other in heading for heading in web])]


def first_chain(web, one, other, given):
    """Of the chains from one to other without a column of given the shortest and first one; None if there is none."""
    chains = [(column,) for column in one]
    reached = list(one + given)
    while chains:
        ends = [chain for chain in chains if chain[-1] in other]
        if ends:
            return ends[0]
        longer = []
        # All chains here are of one length and ascend: so the first one that comes to a column is the first of all.
        for chain in list(chains):
            for column in neighbours(web, chain[-1]):
                if column not in reached:
                    reached.append(column)
                    longer.append(chain + (column,))
        chains = longer
    return None


def kept_apart(web, one, other, given):
    """None if each chain from one to other has a column of given, else a family in whose whole they are not apart."""
    folded(web)
    chain = first_chain(web, one, other, given)
    return None if chain is None else sums(web, marked_table(columns_of(web), [(), (chain,)]))


def scaled_weights(web, family):
    """Weights of the tables' rows, and a unit: a row's product is that of its parts' weights, divided by the unit.

    It raises what whole raises, then Empty() if the total is 0.
    """
    unit = agreed_total(web, family)
    weights = by_counts(family)
    for x, y in folded(web):
        seamed = summed(family[x], seam(web, x, y))
        scale = 1
        for _, count in seamed.counts():
            scale = lcm(scale, count)
        unit = unit * scale
        on_seam = {small: scale // count for small, count in seamed.counts()}
        weights[x] = {row: count * on_seam[part(web[x], row, web[y])] for row, count in weights[x].items()}
    return weights, unit


def must_be_columns(web, named):
    """None; UnknownColumn(column) for the first of these values that is no column of the web."""
    columns = columns_of(web)
    for column in named:
        if column not in columns:
            raise UnknownColumn(column)


def chance(web, family, known):
    """The sum of the products of all rows that fit known."""
    weights, unit = scaled_weights(web, family)
    must_be_columns(web, list(known))
    return fraction(added_weight(web, fitting(web, weights, known)), unit)


def seen(web, family, known, column):
    """The dict from the values of a column, ascending, to their shares among the rows that fit known."""
    weights, _ = scaled_weights(web, family)
    must_be_columns(web, list(known) + [column])
    told = by_value(web, fitting(web, weights, known), column, sum_of_two)
    if not told:
        raise Empty()
    total = sum(told.values())
    return {worth: fraction(weight, total) for worth, weight in told.items()}


def likeliest(web, family, known):
    """(row, product) with the greatest product of all rows that fit known, of these the first."""
    weights, unit = scaled_weights(web, family)
    must_be_columns(web, list(known))
    left = fitting(web, weights, known)
    greatest = weight_of_all(web, left, greater_of_two, product_of_two)
    if greatest is None:
        raise Empty()
    row = []
    for column in columns_of(web):
        told = by_value(web, left, column, greater_of_two)
        worth = [other for other in told if told[other] == greatest][0]
        left = fitting(web, left, {column: worth})
        row.append(worth)
    return tuple(row), fraction(greatest, unit)


def is_point(value):
    """Whether any value is a fraction from 0 on and below 1."""
    return is_fraction(value) and 0 <= value[0] < value[1]


def row_at(web, family, point):
    """The first row, ascending, up to which the products of all rows come to more than the point."""
    weights, unit = scaled_weights(web, family)
    if not is_point(point):
        raise BadNumber(point)
    p, q = point
    return row_at_weight(web, weights, p * unit // q)
