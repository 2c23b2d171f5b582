"""Cores: why a web does not fold."""

from agreetwo.ears import folding
from agreetwo.errors import Cored, Folds
from agreetwo.headings import lies_within
from agreetwo.webs import columns_of, cut, largest

LEAST_SHELL = 3
LEAST_RING = 4


def ring_headings(circle):
    """The pairs of neighbours in a circle of columns, that of the first and the last one at the end."""
    following = circle[1:] + circle[:1]
    return [tuple(sorted(pair)) for pair in zip(circle, following)]


def shell_headings(columns):
    """All the columns but one, the first one being left out first."""
    return [columns[:k] + columns[k + 1:] for k in range(len(columns))]


def core_headings(core):
    """The headings of a core, in the order of its columns."""
    word, columns = core
    return ring_headings(columns) if word == "ring" else shell_headings(columns)


def circle_of(pairs, columns):
    """The columns met on the way from the least one to its lesser neighbour and on, each once."""
    circle = [columns[0]]
    while True:
        near = [column for pair in pairs if circle[-1] in pair for column in pair if column not in circle]
        if not near:
            return tuple(circle)
        circle.append(min(near))


def core_over(web, columns):
    """The core of the web whose columns are all these, three or more, None if there is none."""
    narrow = cut(web, columns)
    headings = sorted([narrow[x] for x in largest(narrow)])
    if headings == sorted(shell_headings(columns)):
        return ("shell", columns)
    # Three columns in a circle are a shell, so a ring that is found here has four at least.
    circle = circle_of(headings, columns)
    if headings == sorted(ring_headings(circle)):
        return ("ring", circle)
    return None


def choices(columns, many):
    """All headings of so many of the columns, ascending."""
    if many == 0:
        return [()]
    found = []
    for k in range(len(columns)):
        found.extend([columns[k:k + 1] + rest for rest in choices(columns[k + 1:], many - 1)])
    return found


def core(web):
    """The core with the fewest columns, of these the one whose columns come first; None if the web has none."""
    columns = columns_of(web)
    for many in range(LEAST_SHELL, len(columns) + 1):
        for chosen in choices(columns, many):
            found = core_over(web, chosen)
            if found is not None:
                return found
    return None


def folded(web):
    """The folding of the web; Cored(core) if it has none."""
    pairs = folding(web)
    if pairs is None:
        raise Cored(core(web))
    return pairs


def cored(web):
    """The core of the web; Folds(pairs) if it folds."""
    pairs = folding(web)
    if pairs is not None:
        raise Folds(pairs)
    return core(web)


def is_circle(columns):
    """Whether different columns stand as those of a ring do."""
    return len(columns) >= LEAST_RING and columns[0] == min(columns) and columns[1] < columns[-1]


def is_shell_row(columns):
    """Whether different columns stand as those of a shell do."""
    return len(columns) >= LEAST_SHELL and columns == tuple(sorted(columns))


def has_core_form(web, value):
    """Whether any value is a word and different columns of the web, so many and in such an order as it asks."""
    if not isinstance(value, tuple) or len(value) != 2 or not isinstance(value[1], tuple):
        return False
    word, columns = value
    known = columns_of(web)
    if not all([column in known for column in columns]) or len(set(columns)) != len(columns):
        return False
    if word == "ring":
        return is_circle(columns)
    return word == "shell" and is_shell_row(columns)


def judge_core(web, value):
    """None if any value is a core of the web, else what is wrong with it."""
    if not has_core_form(web, value):
        return ("form",)
    headings = core_headings(value)
    narrow = cut(web, value[1])
    for x, heading in enumerate(narrow):
        if not any([lies_within(heading, other) for other in headings]):
            return ("cut", x)
    for heading in headings:
        if heading not in narrow:
            return ("lacks", heading)
    return None
