"""Ears and foldings: headings that are taken off one by one, each beside one that has all that it shares."""

from agreetwo.headings import lies_within
from agreetwo.webs import are_pairs_in


def common_columns(web, lot, x):
    """The columns that heading x has in common with any other one in the lot."""
    return tuple([column for column in web[x] if any([column in web[z] for z in lot if z != x])])


def ears(web, lot):
    """The ascending list of the pairs (x, y) of numbers in the lot such that x is an ear by y."""
    found = []
    for x in lot:
        common = common_columns(web, lot, x)
        found.extend([(x, y) for y in lot if y != x and lies_within(common, web[y])])
    return found


def without(lot, x):
    """The lot behind the taking of x."""
    return tuple([y for y in lot if y != x])


def folding(web):
    """The folding that takes the least ear by the least heading each time, None if there is none."""
    lot = tuple(range(len(web)))
    pairs = []
    # The ears need no choosing among: in a web that folds, each of them leaves a web that folds.
    while len(lot) > 1:
        found = ears(web, lot)
        if not found:
            return None
        pairs.append(found[0])
        lot = without(lot, found[0][0])
    return tuple(pairs)


def judge_folding(web, value):
    """None if any value is a folding of the web, else what is wrong with it."""
    if not are_pairs_in(web, value) or any([x == y for x, y in value]):
        return ("form",)
    lot = tuple(range(len(web)))
    for k, pair in enumerate(value):
        if pair not in ears(web, lot):
            return ("ear", k)
        lot = without(lot, pair[0])
    return None


def root(web, pairs):
    """The number that is left at the end of a folding."""
    taken = [x for x, _ in pairs]
    left = [x for x in range(len(web)) if x not in taken]
    return left[0]
