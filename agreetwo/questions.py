"""Questions about the join of a family, answered along the web's folding, without the join.

Each row of each table bears a WEIGHT, in a dict for each heading. A row of the join bears what its parts' weights
make, by times; what several rows of the join bear is put together by plus. Along a pair (x, y) the rows of x are
put together by what y sees of them, and hung on the rows of y.
"""

from agreetwo.cores import folded
from agreetwo.ears import folding, root
from agreetwo.errors import NoRow
from agreetwo.headings import is_row, part
from agreetwo.steps import done, full_plan
from agreetwo.trees import tree_of
from agreetwo.values import is_number
from agreetwo.webs import columns_of


def sum_of_two(one, other):
    """The sum of two numbers."""
    return one + other


def product_of_two(one, other):
    """The product of two numbers."""
    return one * other


def lesser_of_two(one, other):
    """The lesser one of two numbers."""
    return min(one, other)


def greater_of_two(one, other):
    """The greater one of two numbers."""
    return max(one, other)


def once_each(family):
    """The weights by which each row counts 1."""
    return [{row: 1 for row in table} for table in family]


def by_counts(family):
    """The weights by which each row counts as often as its table has it."""
    return [{row: count for row, count in table.counts()} for table in family]


def weights_by_part(heading, held, columns, plus):
    """The dict from parts over columns to what plus makes of the weights of the rows that have them."""
    found = {}
    for row, weight in held.items():
        told = part(heading, row, columns)
        found[told] = plus(found[told], weight) if told in found else weight
    return found


def hung_on(heading, held, columns, told, times):
    """The weights of the rows whose parts over columns are told, each with what is told of its part."""
    found = {}
    for row, weight in held.items():
        small = part(heading, row, columns)
        if small in told:
            found[row] = times(weight, told[small])
    return found


def gathered_weights(web, pairs, weights, plus, times):
    """The weights of each heading's rows with all that the pairs, in order, hang on it, straight or through others."""
    gathering = list(weights)
    for x, y in pairs:
        told = weights_by_part(web[x], gathering[x], web[y], plus)
        gathering[y] = hung_on(web[y], gathering[y], web[x], told, times)
    return gathering


def pairs_toward(tree, top):
    """The pairs (x, y) of the tree's ties, y being the nearer one to top, those farther from it ahead."""
    pairs, reached, k = [], [top], 0
    while k < len(reached):
        y = reached[k]
        new = [x for tie in tree if y in tie for x in tie if x not in reached]
        pairs.extend([(x, y) for x in new])
        reached.extend(new)
        k += 1
    return pairs[::-1]


def weight_over(web, weights, columns, plus, times):
    """The dict from parts over columns, ascending, to what plus makes of the rows of the join that have them.

    All of the columns stand in one heading together.
    """
    top = [x for x in range(len(web)) if all([column in web[x] for column in columns])][0]
    pairs = pairs_toward(tree_of(folding(web)), top)
    found = weights_by_part(web[top], gathered_weights(web, pairs, weights, plus, times)[top], columns, plus)
    return {told: found[told] for told in sorted(found)}


def weight_of_all(web, weights, plus, times):
    """What plus makes of all rows of the join; None if it has none."""
    return weight_over(web, weights, (), plus, times).get(())


def added_weight(web, weights):
    """The sum, over the rows of the join, of the products of their parts' weights."""
    told = weight_of_all(web, weights, sum_of_two, product_of_two)
    return 0 if told is None else told


def by_value(web, weights, column, plus):
    """The dict from a column's values, ascending, to what plus makes of the products for the rows that have them."""
    found = weight_over(web, weights, (column,), plus, product_of_two)
    return {told[0]: found[told] for told in found}


def is_fit(heading, row, known):
    """Whether a row has the known values, a dict from columns to integers, where it has their columns."""
    return all([is_number(known[column]) and known[column] == worth
                for column, worth in zip(heading, row) if column in known])


def fitting(web, weights, known):
    """The weights of those rows alone that have the known values."""
    return [{row: held[row] for row in held if is_fit(heading, row, known)} for heading, held in zip(web, weights)]


def value_at(told, n):
    """The first value up to which the weights told come to more than n, and what n has beyond those ahead of it."""
    values, k = list(told), 0
    while n >= told[values[k]]:
        n -= told[values[k]]
        k += 1
    return values[k], n


def row_at_weight(web, weights, n):
    """The first row of the join, ascending, up to which the weights of all come to more than n; n is less than all."""
    row, left, rest = [], weights, n
    for column in columns_of(web):
        worth, rest = value_at(by_value(web, left, column, sum_of_two), rest)
        left = fitting(web, left, {column: worth})
        row.append(worth)
    return tuple(row)


def count_join(web, family):
    """How many rows the join of the family has."""
    folded(web)
    return added_weight(web, once_each(family))


def scale_led(web, family, scale):
    """The sum over the rows of the join of the products of their counts, or the least or greatest of their sums."""
    folded(web)
    weights = by_counts(family)
    if scale == "sum":
        return added_weight(web, weights)
    return weight_of_all(web, weights, lesser_of_two if scale == "least" else greater_of_two, sum_of_two)


def nth(web, family, n):
    """The row of the join with number n; NoRow(n) if there is none."""
    many = count_join(web, family)
    if not 0 <= n < many:
        raise NoRow(n)
    return row_at_weight(web, once_each(family), n)


def is_in_join(web, family, row):
    """Whether any value is a row of the join."""
    columns = columns_of(web)
    return is_row(columns, row) and all([part(columns, row, table.heading()) in table for table in family])


def place_of(web, family, row):
    """The number of a row of the join; NoRow(row) for any other value."""
    folded(web)
    if not is_in_join(web, family, row):
        raise NoRow(row)
    ahead, left = 0, once_each(family)
    for column, worth in zip(columns_of(web), row):
        told = by_value(web, left, column, sum_of_two)
        ahead += sum([told[other] for other in told if other < worth])
        left = fitting(web, left, {column: worth})
    return ahead


def gathered(web, family):
    """How many rows the join of each heading's table and of all that was taken onto it has, behind the full plan."""
    pairs = folded(web)
    weights = once_each(done(web, family, full_plan(web)))
    gathering = gathered_weights(web, pairs, weights, sum_of_two, product_of_two)
    order = [x for x, _ in pairs] + [root(web, pairs)]
    return [sum(gathering[z].values()) for z in order]
