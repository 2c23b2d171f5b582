"""What the document says of ears, foldings, trees and cores, tried out way by way: slow, and straight from its words."""

import itertools


def is_ear(web, lot, x, y):
    """Each column that x has in common with any other heading in the lot is one of y's."""
    for z in lot:
        if z != x and not (set(web[x]) & set(web[z])) <= set(web[y]):
            return False
    return x != y and x in lot and y in lot


def all_ears(web, lot):
    return [(x, y) for x in sorted(lot) for y in sorted(lot) if is_ear(web, lot, x, y)]


def all_foldings(web):
    """Every folding, ascending."""
    def behind(lot):
        if len(lot) == 1:
            return [()]
        found = []
        for x, y in all_ears(web, lot):
            found.extend([((x, y),) + rest for rest in behind([z for z in lot if z != x])])
        return found
    return behind(list(range(len(web))))


def first_folding(web):
    lot, pairs = list(range(len(web))), ()
    while len(lot) > 1:
        found = all_ears(web, lot)
        if not found:
            return None
        pairs += (min(found),)
        lot.remove(min(found)[0])
    return pairs


def folds_by_weight(web):
    """Another way to tell that a web folds: a heaviest tree of seams loses no column (Kruskal's)."""
    many = len(web)
    ties = sorted([(-len(set(web[x]) & set(web[y])), x, y) for x, y in itertools.combinations(range(many), 2)])
    pieces, weight = list(range(many)), 0
    for less, x, y in ties:
        if pieces[x] != pieces[y]:
            weight -= less
            pieces = [pieces[x] if piece == pieces[y] else piece for piece in pieces]
    columns = {column for heading in web for column in heading}
    return weight == sum(len([1 for heading in web if column in heading]) - 1 for column in columns)


def pieces_of(nodes, ties):
    """The number of pieces into which nodes fall along ties."""
    left, pieces = set(nodes), 0
    while left:
        pieces += 1
        reached = {left.pop()}
        while reached:
            x = reached.pop()
            near = {y for y in left if (x, y) in ties or (y, x) in ties}
            left -= near
            reached |= near
    return pieces


def all_trees(web):
    """Every tree of a web, ascending."""
    numbers = range(len(web))
    ties = list(itertools.combinations(numbers, 2))
    return [tree for tree in itertools.combinations(ties, len(web) - 1) if pieces_of(numbers, tree) == 1]


def largest_sets(web, columns):
    cuts = {frozenset(heading) & frozenset(columns) for heading in web}
    return {one for one in cuts if not any(one < other for other in cuts)}


def ring_sets(columns):
    return {frozenset((columns[k - 1], columns[k])) for k in range(len(columns))}


def shell_sets(columns):
    return {frozenset(columns) - {column} for column in columns}


def circles(columns):
    """All circles of the columns, the first one the least, the second one less than the last one."""
    return [columns[:1] + rest for rest in itertools.permutations(columns[1:]) if rest[0] < rest[-1]]


def all_cores(web):
    """Every core: fewer columns ahead of more, then by the columns as a heading."""
    found = []
    columns = sorted({column for heading in web for column in heading})
    for many in range(3, len(columns) + 1):
        for chosen in itertools.combinations(columns, many):
            sets = largest_sets(web, chosen)
            if sets == shell_sets(chosen):
                found.append(("shell", chosen))
            if many >= 4 and len(sets) == many and all(len(one) == 2 for one in sets):
                found.extend([("ring", circle) for circle in circles(chosen) if ring_sets(circle) == sets])
    return found
