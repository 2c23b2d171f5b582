"""Which splits follow from splits that are told."""

from agreetwo.broken import choices_of, marked_table
from agreetwo.headings import beyond, lies_within, shared


def fallen(block, split):
    """The list of the two blocks into which a block falls by the split, or of itself alone if it does not."""
    given, side = split
    inside, outside = shared(block, side), beyond(block, side)
    if shared(block, given) != () or inside == () or outside == ():
        return [block]
    return [inside, outside]


def blocks(heading, told, given):
    """The ascending list of the blocks of the columns beyond given."""
    columns = beyond(heading, given)
    found = [] if columns == () else [columns]
    while True:
        many = len(found)
        for split in told:
            found = [piece for block in found for piece in fallen(block, split)]
        if len(found) == many:
            return sorted(found)


def follows(heading, told, split):
    """None if the split follows from those told, else a table that has all of them, and not the split."""
    given, side = split
    found = blocks(heading, told, given)
    if all([lies_within(block, side) or shared(block, side) == () for block in found]):
        return None
    return marked_table(heading, choices_of(found))
