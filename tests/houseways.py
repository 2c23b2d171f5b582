"""What the document says of states, deeds and houses, way by way: slow, and straight from its words.

A state here is a dict from names to pairs (heading, dict from rows to counts); plain(state) makes one of a state of
the package.
"""

import copy

WORDS = ["left", "right", "far", "mid", "new", "top", "low", "end", "odd"]
COLUMNS = "abcdefgh"


def plain(state):
    return {name: (table.heading(), dict(table.counts())) for name, table in state.items()}


def part_of(heading, row, columns):
    return tuple([worth for column, worth in zip(heading, row) if column in columns])


def summed(one, columns):
    heading, counts = one
    found = {}
    for row, count in counts.items():
        small = part_of(heading, row, columns)
        found[small] = found.get(small, 0) + count
    return found


def slow_fitted(one, other):
    """[10.2], one row after the other, each taken or put by itself."""
    mine, theirs = summed(one, other[0]), summed(other, one[0])
    heading, counts = other[0], dict(other[1])
    seam = [column for column in heading if column in one[0]]
    for small in sorted(set(mine) | set(theirs)):
        a, b = mine.get(small, 0), theirs.get(small, 0)
        rows = sorted([row for row in counts if part_of(heading, row, seam) == small])
        if b > a:
            take = b - a
            for row in reversed(rows):
                n = min(take, counts[row])
                counts[row] -= n
                take -= n
        if b < a:
            told = dict(zip(seam, small))
            row = rows[0] if rows else tuple([told.get(column, 0) for column in heading])
            counts[row] = counts.get(row, 0) + a - b
    return heading, {row: count for row, count in counts.items() if count}


def is_word(value):
    return isinstance(value, str) and 1 <= len(value) <= 8 and all("a" <= sign <= "z" for sign in value)


def is_integer(value):
    return isinstance(value, int) and not isinstance(value, bool)


def is_heading(value):
    return (isinstance(value, tuple) and len(value) <= 8 and all(map(is_word, value))
            and list(value) == sorted(set(value)))


def is_row(heading, value):
    return (isinstance(value, tuple) and len(value) == len(heading)
            and all(is_integer(worth) and 0 <= worth <= 99 for worth in value))


def all_columns(state):
    return sorted({column for heading, _ in state.values() for column in heading})


def slow_behind(state, deed):
    """[10.1], as a pair of an error's name and what it bears (None if nothing), or of None and the state behind."""
    parts = {"holder": 3, "leave": 2, "put": 4, "take": 4, "rename": 3, "fit": 3}
    if not (isinstance(deed, tuple) and deed and isinstance(deed[0], str) and parts.get(deed[0]) == len(deed)):
        return "BadDeed", None
    made, word = copy.deepcopy(state), deed[0]
    if word == "holder":
        if not is_word(deed[1]) or deed[1] in state:
            return "BadName", deed[1]
        if not is_heading(deed[2]):
            return "BadHeading", deed[2]
        made[deed[1]] = (deed[2], {})
        if len(made) > 7 or len(all_columns(made)) > 8:
            return "TooMany", None
        return None, made
    if word == "rename":
        old, new = deed[1:]
        if not isinstance(old, str) or old not in all_columns(state):
            return "UnknownColumn", old
        if not is_word(new) or (new != old and new in all_columns(state)):
            return "BadName", new
        for name, (heading, counts) in state.items():
            called = [new if column == old else column for column in heading]
            made[name] = (tuple(sorted(called)), {tuple([row[called.index(column)] for column in sorted(called)]): count
                                                  for row, count in counts.items()})
        return None, made
    for name in deed[1:3] if word == "fit" else deed[1:2]:
        if not is_word(name) or name not in state:
            return "UnknownName", name
    if word == "leave":
        del made[deed[1]]
        return None, made
    if word == "fit":
        made[deed[2]] = slow_fitted(state[deed[1]], state[deed[2]])
        return None, made
    heading, counts = made[deed[1]]
    row, n = deed[2:]
    if not is_row(heading, row):
        return "NoRow", row
    if not is_integer(n) or n < 1:
        return "BadNumber", n
    if word == "take" and counts.get(row, 0) < n:
        return "TooFew", row
    counts[row] = counts.get(row, 0) + (n if word == "put" else -n)
    if not counts[row]:
        del counts[row]
    return None, made


def drawn_row(rng, heading):
    return tuple([rng.randint(0, 2) for _ in heading])


def drawn_deed(rng, state):
    """A deed that can mostly be done in a state of the package."""
    names = list(state)
    word = rng.choice(["holder", "put", "put", "put", "put", "take", "take", "rename", "fit", "fit", "leave"])
    if word == "holder" or not names or rng.random() < 0.03:
        letters = rng.sample(COLUMNS[:rng.choice([3, 5, 8])], rng.randint(0, 3))
        return "holder", rng.choice(WORDS), tuple(sorted(letters))
    if word == "leave" and rng.random() < 0.6:
        word = "put"
    name = rng.choice(names + names + ["none"]) if rng.random() < 0.2 else rng.choice(names)
    if word == "leave":
        return word, name
    if word == "fit":
        return word, name, rng.choice(names)
    if word == "rename":
        columns = all_columns(plain(state)) or ["a"]
        return word, rng.choice(columns), rng.choice(list(COLUMNS) + ["long", "long"])
    table = state.get(name, state[names[0]])
    row = drawn_row(rng, table.heading())
    if word == "take" and len(table) and rng.random() < 0.8:
        row = rng.choice(table.rows())
        return word, name, row, rng.randint(1, table.times(row))
    return word, name, row, rng.choice([1, 1, 2, 3, 10 ** 20])


def slow_merged(was, mine, theirs):
    """[10.5] for states: ("clash", names), or (None, state)."""
    made, clashes = {}, []
    for name in sorted(set(was) | set(mine) | set(theirs)):
        w, h, t = was.get(name), mine.get(name), theirs.get(name)
        told = None
        if t == w:
            told = h
        elif h == w:
            told = t
        elif h is not None and t is not None and h[0] == t[0] and (w is None or w[0] == h[0]):
            counts = {}
            for row in set(h[1]) | set(t[1]) | set(w[1] if w else {}):
                counts[row] = h[1].get(row, 0) + t[1].get(row, 0) - (w[1].get(row, 0) if w else 0)
            if min(counts.values(), default=0) < 0:
                clashes.append(name)
            told = (h[0], {row: count for row, count in counts.items() if count})
        elif h == t:
            told = h
        else:
            clashes.append(name)
        if told is not None:
            made[name] = told
    return ("clash", tuple(clashes)) if clashes else (None, made)


class SlowHouse:
    """[10.4] and [10.5], each moment with all its elders; what is wrong is told, not raised."""

    def __init__(self):
        self.moments = [({}, {0}, None)]
        self.branches = [["main", [0], 0]]
        self.at = 0

    def now(self):
        return self.branches[self.at][1][self.branches[self.at][2]]

    def make(self, state, elders, entry):
        number = len(self.moments)
        if number == 200:
            return "TooMany", None
        self.moments.append((state, elders | {number}, entry))
        branch = self.branches[self.at]
        branch[1] = branch[1][:branch[2] + 1] + [number]
        branch[2] += 1
        return None, number

    def do(self, deed):
        state, elders, _ = self.moments[self.now()]
        told, made = slow_behind(state, deed)
        return (told, made) if told else self.make(made, elders, (self.now(), deed))

    def step(self, by):
        branch = self.branches[self.at]
        if not 0 <= branch[2] + by < len(branch[1]):
            return "NothingDone", None
        branch[2] += by
        return None, self.now()

    def undo(self):
        return self.step(-1)

    def redo(self):
        return self.step(1)

    def branch(self, name):
        if not is_word(name) or name in [one[0] for one in self.branches]:
            return "BadName", name
        if len(self.branches) == 6:
            return "TooMany", None
        _, trail, place = self.branches[self.at]
        self.branches.append([name, trail[:place + 1], place])
        return None, None

    def find(self, name):
        places = [k for k, one in enumerate(self.branches) if isinstance(name, str) and one[0] == name]
        return places[0] if places else None

    def go(self, name):
        if self.find(name) is None:
            return "UnknownName", name
        self.at = self.find(name)
        return None, self.now()

    def merge(self, name):
        if self.find(name) is None:
            return "UnknownName", name
        _, trail, place = self.branches[self.find(name)]
        own, other = self.now(), trail[place]
        mine, theirs = self.moments[own], self.moments[other]
        if other in mine[1]:
            return None, own
        was = self.moments[max(mine[1] & theirs[1])][0]
        told, made = slow_merged(was, mine[0], theirs[0])
        if told:
            return "Clash", made
        if len(made) > 7 or len(all_columns(made)) > 8:
            return "TooMany", None
        return self.make(made, mine[1] | theirs[1], ((own, other), None))
