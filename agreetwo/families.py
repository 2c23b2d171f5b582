"""Families of a web: a table over each of its headings; and their wholes."""

from agreetwo.errors import BadFamily
from agreetwo.tables import Table, agree, summed
from agreetwo.webs import columns_of


def is_table_over(heading, value):
    """Whether any value is a table over the heading."""
    return isinstance(value, Table) and value.heading() == heading


def check_family(web, value):
    """None; BadFamily(None), then BadFamily(x) if any value is no family of the web."""
    if not isinstance(value, (list, tuple)) or len(value) != len(web):
        raise BadFamily(None)
    for x, heading in enumerate(web):
        if not is_table_over(heading, value[x]):
            raise BadFamily(x)


def is_family(web, value):
    """Whether any value is a family of the web."""
    try:
        check_family(web, value)
    except BadFamily:
        return False
    return True


def disagreement(web, family):
    """None if each two tables agree, else (x, y, row) of the first two that do not."""
    for x in range(len(web)):
        for y in range(x + 1, len(web)):
            row = agree(family[x], family[y])
            if row is not None:
                return x, y, row
    return None


def sums(web, table):
    """The list of the sums of a table over all columns onto the headings."""
    return [summed(table, heading) for heading in web]


def is_whole(web, family, value):
    """Whether any value is a table over all columns whose sums are the family's tables."""
    return is_table_over(columns_of(web), value) and sums(web, value) == list(family)
