"""Products of shares along a tree, and the whole that has all shares like the products."""

from math import lcm

from agreetwo.broken import choices_of, marked_table
from agreetwo.cores import folded
from agreetwo.families import check_family, sums
from agreetwo.fractions import filled_total, multiplied, over, plus, share
from agreetwo.headings import part
from agreetwo.joints import join
from agreetwo.tables import Table, summed
from agreetwo.trees import seam, tree_of
from agreetwo.webs import columns_of
from agreetwo.wholes import agreed_folding


def check_filled(web, value):
    """None; BadFamily(number) if any value is no family of the web, then Empty() if some table's total is 0."""
    check_family(web, value)
    for table in value:
        filled_total(table)


def seam_sums(web, tree, family):
    """The sums of the lesser number's table onto the seam, one for each tie."""
    return [summed(family[x], seam(web, x, y)) for x, y in tree]


def product_of(columns, family, seamed, row):
    """The product of a row over the columns, seamed being the sums onto the seams."""
    made = (1, 1)
    for table in family:
        small = part(columns, row, table.heading())
        # What a seam sees of a row that a table has not, may be 0: so nothing is divided by it.
        if small not in table:
            return (0, 1)
        made = multiplied(made, share(table, small))
    for table in seamed:
        made = over(made, share(table, part(columns, row, table.heading())))
    return made


def product(web, tree, family, row):
    """The product of a row along the tree."""
    check_filled(web, family)
    return product_of(columns_of(web), family, seam_sums(web, tree, family), row)


def product_rows(web, tree, family):
    """The list of the pairs (row, product) of all rows of the family's join, ascending."""
    check_filled(web, family)
    columns, seamed = columns_of(web), seam_sums(web, tree, family)
    return [(row, product_of(columns, family, seamed, row)) for row in join(family)]


def product_total(web, tree, family):
    """The sum of the products of all rows of the family's join."""
    total = (0, 1)
    for _, made in product_rows(web, tree, family):
        total = plus(total, made)
    return total


def free(web, columns):
    """The sums of the table that has, once each, all rows with 0 or 1 at each of the columns, and 0 elsewhere."""
    groups = [(column,) for column in columns]
    return sums(web, marked_table(columns_of(web), choices_of(groups)))


def agreed_total(web, family):
    """The total of the tables of a family that agrees, of a web that folds; what whole raises, then Empty()."""
    agreed_folding(web, family)
    return filled_total(family[0])


def even_whole(web, family):
    """(n, table): the least n such that n times the total times each product is an integer, and these as counts."""
    total = agreed_total(web, family)
    rows = product_rows(web, tree_of(folded(web)), family)
    scaled = [(row, multiplied(made, (total, 1))) for row, made in rows]
    n = 1
    for _, made in scaled:
        n = lcm(n, made[1])
    return n, Table(columns_of(web), [(row, p * (n // q)) for row, (p, q) in scaled])
