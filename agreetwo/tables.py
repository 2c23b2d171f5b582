"""Tables: how many times each row over a heading is there."""

from agreetwo.errors import BadHeading, BadNumber, BadRow, TooFew, UnlikeHeadings
from agreetwo.headings import is_heading, is_row, part, shared
from agreetwo.values import is_number


def is_entry(heading, value):
    """Whether any value is a pair of a row over the heading and a count."""
    if not isinstance(value, tuple) or len(value) != 2:
        return False
    return is_row(heading, value[0]) and is_number(value[1]) and value[1] >= 0


class Table:
    """How many times each row over a heading is there; a table never changes."""

    def __init__(self, heading, counts):
        if not is_heading(heading):
            raise BadHeading(heading)
        found = {}
        for number, entry in enumerate(counts):
            if not is_entry(heading, entry):
                raise BadRow(number)
            row, count = entry
            found[row] = found.get(row, 0) + count
        self._columns = heading
        self._rows = tuple(sorted([row for row in found if found[row] > 0]))
        self._times = {row: found[row] for row in self._rows}

    def heading(self):
        """The table's heading."""
        return self._columns

    def rows(self):
        """The list of the table's rows, ascending."""
        return list(self._rows)

    def counts(self):
        """The list of the pairs (row, count), ascending by rows."""
        return [(row, self._times[row]) for row in self._rows]

    def times(self, row):
        """The count of a row; 0 for any value that is none of the table's rows."""
        # (True,) would be found where (1,) stands, and a list cannot be looked up at all.
        return self._times.get(row, 0) if is_row(self._columns, row) else 0

    def total(self):
        """The sum of all counts."""
        return sum(self._times.values())

    def __len__(self):
        return len(self._rows)

    def __contains__(self, x):
        return self.times(x) > 0

    def __iter__(self):
        return iter(self._rows)

    def __eq__(self, other):
        return isinstance(other, Table) and self._columns == other._columns and self._times == other._times

    def __add__(self, other):
        if self._columns != other._columns:
            raise UnlikeHeadings()
        return Table(self._columns, self.counts() + other.counts())

    def __sub__(self, other):
        if self._columns != other._columns:
            raise UnlikeHeadings()
        for row in other._rows:
            if other.times(row) > self.times(row):
                raise TooFew(row)
        return Table(self._columns, [(row, self.times(row) - other.times(row)) for row in self._rows])

    def __mul__(self, other):
        if not is_number(other) or other < 0:
            raise BadNumber(other)
        return Table(self._columns, [(row, other * self.times(row)) for row in self._rows])

    def __rmul__(self, other):
        return self * other


def summed(table, columns):
    """The sum of the table onto those of its columns that are among columns."""
    heading = table.heading()
    return Table(shared(heading, columns), [(part(heading, row, columns), count) for row, count in table.counts()])


def support(table):
    """The table with the same rows, each once."""
    return Table(table.heading(), [(row, 1) for row in table])


def is_within(one, other):
    """Whether no row of one has a greater count than in other, the headings being alike."""
    if one.heading() != other.heading():
        return False
    return all([count <= other.times(row) for row, count in one.counts()])


def first_unlike(one, other):
    """The first row, ascending, of which two tables over one heading have unlike counts; None if there is none."""
    for row in sorted(set(one.rows() + other.rows())):
        if one.times(row) != other.times(row):
            return row
    return None


def agree(one, other):
    """None if the sums onto the shared columns are equal, else the first row of which they have unlike counts."""
    return first_unlike(summed(one, other.heading()), summed(other, one.heading()))


def meet(one, other):
    """None if the sums onto the shared columns have the same rows, else the first row that just one of them has."""
    return first_unlike(support(summed(one, other.heading())), support(summed(other, one.heading())))
