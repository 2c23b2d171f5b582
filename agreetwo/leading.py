"""Wholes led to one another by exchanges, and all wholes of a family."""

from agreetwo.broken import core_table
from agreetwo.cores import folded
from agreetwo.ears import root
from agreetwo.errors import TooMany, Unlike
from agreetwo.exchanges import turned
from agreetwo.headings import part, put_together, together
from agreetwo.joints import by_part
from agreetwo.splits import seams_and_sides
from agreetwo.tables import Table, summed
from agreetwo.webs import columns_of
from agreetwo.wholes import agreed_folding


def changed(numbers, steps):
    """The dict of numbers with n more for each (key, n) of steps; what comes to 0 is left out."""
    found = {key: numbers[key] for key in numbers}
    for key, n in steps:
        found[key] = found.get(key, 0) + n
    return {key: found[key] for key in found if found[key] != 0}


def surplus(columns, held, target, seen):
    """The dict from rows over seen to how many times more the rows held have them than the table target."""
    fewer = [(row, -count) for row, count in summed(target, seen).counts()]
    return changed({}, [(part(columns, row, seen), held[row]) for row in held] + fewer)


def next_exchange(columns, held, unlike, near, heading, side):
    """The next exchange that makes up for some surplus of a row over near and heading, whose dict unlike is.

    One row over heading after the other gets its mates over near: it goes from a row of which it is too much to
    one that lacks it, and back comes what that one has too much. What is right stays right.
    """
    seen = together(near, heading)
    label, cell = min([(part(seen, small, heading), small) for small in unlike if unlike[small] < 0])
    mate = part(seen, cell, near)
    over = sorted([row for row in held if unlike.get(part(columns, row, seen), 0) > 0])
    one = [row for row in over if part(columns, row, near) == mate][0]
    other = [row for row in over if part(columns, row, heading) == label][0]
    most = [-unlike[cell], unlike[part(columns, one, seen)], unlike[part(columns, other, seen)]]
    return one, other, side, min(most + [held[one], held[other]])


def rows_turned(columns, exchange):
    """What an exchange takes and puts, as pairs (row, n) with n below 0 for what is taken."""
    one, other, side, n = exchange
    return [(one, -n), (other, -n), (turned(columns, one, other, side), n), (turned(columns, other, one, side), n)]


def put_right(columns, held, target, near, heading, side):
    """The list of the exchanges behind which the rows held have target's sum over near and heading, and these rows.

    They have target's sums onto near and onto heading already.
    """
    seen, exchanges = together(near, heading), []
    unlike = surplus(columns, held, target, seen)
    while unlike:
        exchange = next_exchange(columns, held, unlike, near, heading, side)
        steps = rows_turned(columns, exchange)
        held = changed(held, steps)
        unlike = changed(unlike, [(part(columns, row, seen), n) for row, n in steps])
        exchanges.append(exchange)
    return exchanges, held


def leading(web, one, other):
    """A tuple of exchanges that lead one table to other; Cored(core), then Unlike(number)."""
    pairs = folded(web)
    for x, heading in enumerate(web):
        if summed(one, heading) != summed(other, heading):
            raise Unlike(x)
    columns, sides, exchanges = columns_of(web), [side for _, side in seams_and_sides(web, pairs)], []
    held, near = {row: count for row, count in one.counts()}, web[root(web, pairs)]
    # Each heading with all that it has gathered sees both rows turned, and each other one sees none.
    for (x, _), side in zip(pairs[::-1], sides[::-1]):
        new, held = put_right(columns, held, other, near, web[x], side)
        exchanges.extend(new)
        near = together(near, web[x])
    return tuple(exchanges)


def dealt(ways, row, mate, k, most):
    """The ways with each number that may be put together of row and of mate, the k-th one of its list.

    A way is (triples, what is left of row, what is left of all mates). No number is left out by which a way could
    go on to its end, and none is taken by which it could not: so each way is the beginning of a whole of its own.
    """
    found = []
    for triples, left, rests in ways:
        for n in range(max(0, left - sum(rests[k + 1:])), min(left, rests[k]) + 1):
            if len(found) == most:
                raise TooMany()
            more = ((row, mate, n),) if n > 0 else ()
            found.append((triples + more, left - n, rests[:k] + (rests[k] - n,) + rests[k + 1:]))
    return found


def pairings(left, right, most):
    """The list of all ways to put two lists of (row, count) of one total together, each a tuple of triples."""
    found = [((), tuple([count for _, count in right]))]
    for row, count in left:
        ways = [(triples, count, rests) for triples, rests in found]
        for k, (mate, _) in enumerate(right):
            ways = dealt(ways, row, mate, k, most)
        found = [(triples, rests) for triples, _, rests in ways]
    return [triples for triples, _ in found]


def all_joints(one, other, most):
    """The list of all tables over the columns of both of which both are sums; TooMany() beyond so many."""
    left, right = one.heading(), other.heading()
    rows, mates = by_part(one, right), by_part(other, left)
    found = [()]
    for seen in rows:
        ways = pairings(rows[seen], mates[seen], most)
        if len(found) * len(ways) > most:
            raise TooMany()
        found = [triples + more for triples in found for more in ways]
    return [Table(together(left, right), [(put_together(left, row, right, mate), n) for row, mate, n in triples])
            for triples in found]


def extended(tables, other, most):
    """The list of all joints of each of the tables with other; TooMany() beyond so many."""
    found = []
    for table in tables:
        new = all_joints(table, other, most - len(found))
        found.extend(new)
    return found


def all_wholes(web, family, *, most=60):
    """The list of all wholes of the family, ascending by their counts; TooMany() beyond so many."""
    pairs = agreed_folding(web, family)
    tables = [family[root(web, pairs)]]
    for x, _ in pairs[::-1]:
        tables = extended(tables, family[x], most)
    return [Table(columns_of(web), counts) for counts in sorted([table.counts() for table in tables])]


def two_wholes(web):
    """Two wholes of one family between which no exchange leads; Folds(pairs) if the web folds."""
    return core_table(web, "even"), core_table(web, "odd")
