"""Splits of a heading in two sides that share what is given, and the tables that come back from their two sums."""

from agreetwo.cores import folded
from agreetwo.headings import beyond, is_heading, lies_within, part, put_together, shared, together
from agreetwo.joints import by_part
from agreetwo.tables import summed
from agreetwo.trees import seam
from agreetwo.webs import columns_of


def rest_of(heading, split):
    """The columns of the heading that are in neither heading of the split."""
    given, side = split
    return beyond(beyond(heading, given), side)


def is_split(heading, value):
    """Whether any value is a split of the heading."""
    if not isinstance(value, tuple) or len(value) != 2 or not all([is_heading(one) for one in value]):
        return False
    given, side = value
    if shared(given, side) != () or not lies_within(together(given, side), heading):
        return False
    return side != () and rest_of(heading, value) != ()


def other_side(heading, split):
    """The split with the rest as its side."""
    return split[0], rest_of(heading, split)


def lacking(table, split):
    """The first row that the table has not, though its parts over both sides are those of some rows; None if none."""
    given, side = split
    left = summed(table, together(given, side))
    right = summed(table, together(given, rest_of(table.heading(), split)))
    mates = by_part(right, given)
    made = [put_together(left.heading(), row, right.heading(), mate)
            for row in left for mate, _ in mates[part(left.heading(), row, given)]]
    return min([row for row in made if row not in table], default=None)


def has_split(table, split):
    """Whether the table has the split."""
    return lacking(table, split) is None


def must_split(web, split):
    """Whether no heading of the web has columns of the split's side and columns of its rest."""
    side, rest = split[1], rest_of(columns_of(web), split)
    return not any([shared(heading, side) != () and shared(heading, rest) != () for heading in web])


def seams_and_sides(web, pairs):
    """The list of the pairs, for each pair (x, y) of a folding, of the seam and of what x has gathered beyond it."""
    gathering, found = list(web), []
    for x, y in pairs:
        found.append((seam(web, x, y), beyond(gathering[x], seam(web, x, y))))
        gathering[y] = together(gathering[y], gathering[x])
    return found


def splits_of(web):
    """The list of the splits along the web's folding, each once."""
    columns, found = columns_of(web), []
    for split in seams_and_sides(web, folded(web)):
        if is_split(columns, split) and split not in found:
            found.append(split)
    return found
