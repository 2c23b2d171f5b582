"""Plans, unrolled to trees of nodes, and papers that show whether a plan cleans a table for every family.

While a tree grows, it is a pair of the heading that its root bears and of the tuple of the trees that hang there:
so a copy that is hung costs nothing, however many nodes it has.
"""

from agreetwo.errors import TooMany
from agreetwo.families import is_family
from agreetwo.headings import part
from agreetwo.steps import done, is_clean
from agreetwo.tables import Table
from agreetwo.values import is_number
from agreetwo.webs import columns_of
from agreetwo.wholes import first_pick, thinned

MOST_NODES = 60


def many_nodes(web, plan, x):
    """How many nodes the tree of x has behind the last step."""
    many = [1 for _ in web]
    for a, b in plan:
        many[a] = many[a] + many[b]
    return many[x]


def laid_out(tree, above, place):
    """The list of the nodes of a tree whose root comes to this place, beneath the place above."""
    bears, hanging = tree
    nodes = [(bears, above)]
    for piece in hanging:
        nodes.extend(laid_out(piece, place, place + len(nodes)))
    return nodes


def unrolled(web, plan, x):
    """The tree of x behind the last step of the plan: the list of pairs (heading's number, place above)."""
    if many_nodes(web, plan, x) > MOST_NODES:
        raise TooMany()
    trees = [(y, ()) for y in range(len(web))]
    for a, b in plan:
        trees[a] = (a, trees[a][1] + (trees[b],))
    return laid_out(trees[x], None, 0)


def least_free(numbers):
    """The least number from 0 on that is none of these."""
    n = 0
    while n in numbers:
        n += 1
    return n


def node_rows(web, tree):
    """The list of the rows of a tree's nodes, in order."""
    rows = []
    used = {column: [] for column in columns_of(web)}
    for bears, above in tree:
        told = {} if above is None else dict(zip(web[tree[above][0]], rows[above]))
        row = tuple([told[column] if column in told else least_free(used[column]) for column in web[bears]])
        for column, worth in zip(web[bears], row):
            used[column].append(worth)
        rows.append(row)
    return rows


def rows_borne(web, tree):
    """For each heading the list of the rows of the nodes that bear it, by their places, each different row once."""
    lots = [[] for _ in web]
    for (bears, _), row in zip(tree, node_rows(web, tree)):
        if row not in lots[bears]:
            lots[bears].append(row)
    return lots


def data_of(web, tree):
    """The family in which the table of each heading has just the rows of the nodes that bear it."""
    lots = rows_borne(web, tree)
    return [Table(heading, [(row, 1) for row in lot]) for heading, lot in zip(web, lots)]


def judge_plan(web, plan, x):
    """("clean", nodes) if the plan cleans x for every family, else ("data", family) with one for which it does not."""
    tree = unrolled(web, plan, x)
    rows, lots = node_rows(web, tree), rows_borne(web, tree)
    lots[x] = rows[:1]
    # Each lot has its rows by the least places at which they stand, so the first pick has the least places, too.
    picked = first_pick(web, thinned(web, lots))
    if picked is None:
        return "data", data_of(web, tree)
    nodes = [(tree[place][0], rows[place]) for place in range(len(tree))]
    return "clean", tuple([nodes.index((y, picked[y])) for y in range(len(web))])


def has_nodes_form(web, value):
    """Whether any value is ("clean", nodes) with as many integers as the web has headings."""
    if not isinstance(value, tuple) or len(value) != 2 or value[0] != "clean":
        return False
    nodes = value[1]
    return isinstance(nodes, tuple) and len(nodes) == len(web) and all([is_number(place) for place in nodes])


def has_data_form(web, value):
    """Whether any value is ("data", family) with a family of the web."""
    return isinstance(value, tuple) and len(value) == 2 and value[0] == "data" and is_family(web, value[1])


def judge_nodes(web, tree, x, nodes):
    """None if the nodes show that x is cleaned, else what is wrong with them."""
    for k, place in enumerate(nodes):
        if not 0 <= place < len(tree) or tree[place][0] != k or (k == x and place != 0):
            return ("node", k)
    rows = node_rows(web, tree)
    for j in range(len(web)):
        for k in range(j + 1, len(web)):
            if part(web[j], rows[nodes[j]], web[k]) != part(web[k], rows[nodes[k]], web[j]):
                return ("apart", j, k)
    return None


def judge_paper(web, plan, x, value):
    """None if any value shows whether the plan cleans x, else what is wrong with it."""
    tree = unrolled(web, plan, x)
    if has_nodes_form(web, value):
        return judge_nodes(web, tree, x, value[1])
    if not has_data_form(web, value):
        return ("form",)
    return ("clean",) if is_clean(web, done(web, value[1], plan), x) else None
