"""Fractions, as pairs of integers in lowest terms, and the shares that rows have in a table."""

from math import gcd

from agreetwo.errors import BadNumber, Empty
from agreetwo.values import is_number

NOUGHT = (0, 1)


def fraction(p, q):
    """p / q in lowest terms, the second number at least 1; BadNumber(0) if q is 0."""
    if q == 0:
        raise BadNumber(0)
    common = gcd(p, q)
    if q < 0:
        common = -common
    return p // common, q // common


def is_fraction(value):
    """Whether any value is a fraction."""
    if not isinstance(value, tuple) or len(value) != 2 or not all([is_number(worth) for worth in value]):
        return False
    return value[1] >= 1 and gcd(value[0], value[1]) == 1


def plus(one, other):
    """The sum of two fractions."""
    return fraction(one[0] * other[1] + other[0] * one[1], one[1] * other[1])


def minus(one, other):
    """The difference of two fractions."""
    return fraction(one[0] * other[1] - other[0] * one[1], one[1] * other[1])


def multiplied(one, other):
    """The product of two fractions."""
    return fraction(one[0] * other[0], one[1] * other[1])


def over(one, other):
    """The quotient of two fractions; BadNumber((0, 1)) if other is 0."""
    if other == NOUGHT:
        raise BadNumber(NOUGHT)
    return fraction(one[0] * other[1], one[1] * other[0])


def is_less(one, other):
    """Whether the first fraction is less than the second one."""
    return one[0] * other[1] < other[0] * one[1]


def filled_total(table):
    """The table's total; Empty() if it is 0."""
    total = table.total()
    if total == 0:
        raise Empty()
    return total


def share(table, row):
    """The share of a row in the table, (0, 1) for any value that is none of its rows; Empty() if the total is 0."""
    total = filled_total(table)
    return fraction(table.times(row), total)


def shares(table):
    """The list of the pairs (row, share), ascending by rows; Empty() if the total is 0."""
    total = filled_total(table)
    return [(row, fraction(count, total)) for row, count in table.counts()]
