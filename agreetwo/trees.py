"""Trees: ties between headings by which each can be come to from each other one."""

from agreetwo.headings import shared
from agreetwo.webs import are_pairs_in, columns_of


def tree_of(pairs):
    """The tree of a folding's pairs."""
    return tuple(sorted([(min(x, y), max(x, y)) for x, y in pairs]))


def has_tree_form(web, value):
    """Whether any value is an ascending tuple of ties, each once, one fewer than there are headings."""
    if not are_pairs_in(web, value) or any([x >= y for x, y in value]):
        return False
    return all([value[k] < value[k + 1] for k in range(len(value) - 1)])


def judge_tree(web, value):
    """None if any value is a tree of the web, else what is wrong with it."""
    if not has_tree_form(web, value):
        return ("form",)
    # One tie fewer than headings and no ring: then all hang together, and nothing else needs a look.
    pieces = list(range(len(web)))
    for k, (x, y) in enumerate(value):
        if pieces[x] == pieces[y]:
            return ("ring", k)
        pieces = [pieces[x] if piece == pieces[y] else piece for piece in pieces]
    return None


def seam(web, x, y):
    """The heading of the columns that two headings share."""
    return shared(web[x], web[y])


def seams(web, tree):
    """The ascending list of the seams of all ties, one for each."""
    return sorted([seam(web, x, y) for x, y in tree])


def parts(web, tree, column):
    """Into how many pieces the headings fall that have the column, along the ties whose both ends have it."""
    headings = [heading for heading in web if column in heading]
    ties = [tie for tie in tree if column in seam(web, tie[0], tie[1])]
    # A tree has no ring, so each of these ties makes one piece of two.
    return len(headings) - len(ties)


def is_folding_tree(web, tree):
    """Whether each column of the web has one part."""
    return all([parts(web, tree, column) == 1 for column in columns_of(web)])
