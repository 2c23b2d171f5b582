"""Steps between the tables of a family that take away rows, and what is clean behind them."""

from agreetwo.cores import folded
from agreetwo.tables import Table
from agreetwo.wholes import first_alone, kept_rows


def led(web, family, step):
    """The table that the step leaves in the place of the one that it goes to."""
    x, y = step
    kept = kept_rows(web[x], family[x].rows(), web[y], family[y].rows())
    return Table(web[x], [(row, family[x].times(row)) for row in kept])


def walked(web, family, plan):
    """The family behind the plan, and how many rows each of its steps takes away."""
    tables, numbers = list(family), []
    for step in plan:
        x = step[0]
        table = led(web, tables, step)
        numbers.append(len(tables[x]) - len(table))
        tables[x] = table
    return tables, numbers


def done(web, family, plan):
    """The family behind the plan."""
    return walked(web, family, plan)[0]


def leaving(web, family, plan):
    """The list of how many rows each step of the plan takes away."""
    return walked(web, family, plan)[1]


def is_clean(web, family, x):
    """Whether each row of table x is part of a row of the join."""
    return first_alone(web, [table.rows() for table in family], x) is None


def full_plan(web):
    """The plan along the folding, to the root and back, behind which each table of any family is clean."""
    pairs = folded(web)
    return tuple([(y, x) for x, y in pairs]) + pairs[::-1]
