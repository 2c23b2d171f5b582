"""What several test files use: values of every kind, drawn webs and tables, and a way to ask for an error."""

import random

from agreetwo.ears import folding
from agreetwo.families import sums
from agreetwo.house import House
from agreetwo.tables import Table
from agreetwo.webs import columns_of

LETTERS = "abcdefgh"
AB, BC = ("a", "b"), ("b", "c")
CHAIN = (("a", "b"), ("b", "c"), ("c", "d"))
RING = (("a", "b"), ("b", "c"), ("c", "d"), ("a", "d"))
SHELL = (("a", "b"), ("a", "c"), ("b", "c"))
LEFT = Table(AB, [((0, 1), 3), ((2, 2), 1), ((0, 1), 2)])
RIGHT = Table(BC, [((1, 0), 4), ((1, 5), 1), ((2, 0), 1)])


def nested(kind, depth):
    """One value of a kind within another one, so many times."""
    value = 7
    for _ in range(depth):
        value = {"a": value} if kind is dict else kind([value])
    return value


def any_values():
    """Values of every kind that a caller may pass where a point says any value, made anew each time."""
    plain = [0, 1, -1, 2, 99, 100, 10 ** 40 - 1, -10 ** 39, True, False, None, "", "a", "ab", "A", "a b\t\n~", " "]
    groups = [(), [], {}, (0,), [0], ("a",), ["a"], {"a": 1}, {1: 2}, {(0, 1): [1]}, (True,), (None,), ((),), [[]],
              ((0, 1),), [(0, 1)], ([0, 1],), ((0, 1), (1, 2)), [[0, 1], [1, 2]], ((True, False),), (0, (1, [2, {}]))]
    own = [Table((), []), Table(("a",), [((1,), 2)]), (Table((), []),), [Table(AB, [])], House(), (House(), {"a": House()})]
    return plain + groups + own + [nested(kind, 29) for kind in (list, tuple, dict)]


def drawn(seed):
    """Drawn things that are the same in each run."""
    return random.Random(seed)


def drawn_heading(rng, letters=LETTERS, most=8):
    """A heading of at most so many of the letters."""
    many = rng.randint(0, min(most, len(letters)))
    return tuple(sorted(rng.sample(letters, many)))


def drawn_web(rng, most_headings=7, most_columns=8, widest=4):
    """A web of headings that are drawn one by one; most of these fold."""
    letters = LETTERS[:rng.randint(1, most_columns)]
    return tuple([drawn_heading(rng, letters, widest) for _ in range(rng.randint(1, most_headings))])


def ring_web(columns):
    """The web of the pairs of neighbours in a circle."""
    return tuple([tuple(sorted((columns[k], columns[(k + 1) % len(columns)]))) for k in range(len(columns))])


def shell_web(columns):
    """The web of all the columns without one each."""
    return tuple([tuple([c for c in columns if c != left]) for left in columns])


def drawn_tangle(rng, letters=LETTERS):
    """A web made of a ring or a shell, with columns put in and headings put in or left out; many do not fold."""
    kind, least = rng.choice([(ring_web, 4), (shell_web, 3)])
    columns = rng.sample(letters, rng.randint(least, min(6, len(letters))))
    web = [set(heading) for heading in kind(columns)]
    for heading in web:
        heading.update(rng.sample(letters, rng.choice([0, 0, 0, 1, 1, 2])))
    for _ in range(rng.randint(0, 7 - len(web))):
        web.append(set(rng.sample(letters, rng.randint(0, 3))))
    if rng.random() < 0.3:
        web.pop(rng.randrange(len(web)))
    rng.shuffle(web)
    return tuple([tuple(sorted(heading)) for heading in web])


def drawn_table(rng, heading, rows=6, values=2, most=4):
    """A table over the heading; equal rows and counts of 0 are drawn, too."""
    counts = []
    for _ in range(rng.randint(0, rows)):
        counts.append((tuple([rng.randint(0, values) for _ in heading]), rng.randint(0, most)))
    return Table(heading, counts)


def raised(kind, call, *args):
    """The error of just this kind that the call raises."""
    try:
        told = call(*args)
    except kind as error:
        assert error.__class__ is kind, error
        assert error.called == kind.__name__, error
        return error
    raise AssertionError(f"{kind.__name__} was asked for, {told!r} came")


def folding_web(rng, most_headings=5, most_columns=6, widest=3, least=1):
    """A drawn web of at least so many headings that folds."""
    while True:
        web = drawn_web(rng, most_headings, most_columns, widest)
        if len(web) >= least and folding(web) is not None:
            return web


def grown_web(rng, most_headings=4, most_columns=4, most_shared=1):
    """A web of two or more headings that folds: each new one shares few columns with one ahead, and has one more."""
    letters = rng.sample(LETTERS[:most_columns], most_columns)
    web = [set(letters[:rng.randint(1, 2)])]
    left = letters[len(web[0]):]
    while left and len(web) < most_headings and (len(web) < 2 or rng.random() < 0.8):
        near = sorted(rng.choice(web))
        web.append(set(rng.sample(near, rng.randint(0, min(most_shared, len(near))))) | {left.pop()})
    rng.shuffle(web)
    return tuple([tuple(sorted(heading)) for heading in web])


def cored_web(rng, letters=LETTERS):
    """A drawn web that does not fold."""
    while True:
        web = drawn_tangle(rng, letters)
        if folding(web) is None:
            return web


def drawn_family(rng, web, rows=4, values=1, most=3):
    """A table over each heading; as a rule no two of them agree."""
    return [drawn_table(rng, heading, rows, values, most) for heading in web]


def agreeing_family(rng, web, rows=6, values=1, most=3):
    """The sums of a drawn table over all columns; its total may be 0."""
    return sums(web, drawn_table(rng, columns_of(web), rows, values, most))


def filled_family(rng, web, rows=6, values=1, most=3):
    """The sums of a drawn table over all columns, with a total above 0."""
    while True:
        family = agreeing_family(rng, web, rows, values, most)
        if family[0].total() > 0:
            return family


def ones(heading, *rows):
    """The table over the heading that has these rows once each."""
    return Table(heading, [(row, 1) for row in rows])
