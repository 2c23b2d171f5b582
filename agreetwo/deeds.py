"""States of holders and their tables, the deeds that make one of another, and what is to be told of a state.

A state is a dict from the holders' names, ascending, to their tables.
"""

from agreetwo.broken import marked_row
from agreetwo.cores import core, folded
from agreetwo.ears import folding
from agreetwo.errors import BadDeed, BadName, BadNumber, BadText, NoRow, UnknownColumn, UnknownName
from agreetwo.families import disagreement
from agreetwo.headings import MOST_COLUMNS, beyond, is_heading, is_row, is_word, put_together, shared
from agreetwo.joints import by_part
from agreetwo.tables import Table, summed
from agreetwo.tabletexts import FIGURES, heading_text, row_text
from agreetwo.values import is_number
from agreetwo.webchanges import must_have_room, renamed_heading
from agreetwo.webs import columns_of
from agreetwo.wholes import whole

PARTS = {"holder": 3, "leave": 2, "put": 4, "take": 4, "rename": 3, "fit": 3}
MOST_VALUE_FIGURES = 2
MOST_COUNT_FIGURES = 40


def web_of(state):
    """The tuple of the tables' headings, in the order of the names."""
    return tuple([state[name].heading() for name in sorted(state)])


def family_of(state):
    """The list of the tables, in the order of the names."""
    return [state[name] for name in sorted(state)]


def put_in_order(tables):
    """The state of these names and tables."""
    return {name: tables[name] for name in sorted(tables)}


def table_of(state, name):
    """The table of a holder; UnknownName(name) for any value that is no holder's name."""
    # A list cannot be looked up in a dict, so what is no word is left out first.
    if not is_word(name) or name not in state:
        raise UnknownName(name)
    return state[name]


def counts_led(entries, n, row):
    """The pairs (row, count) with counts of n in all: as the entries, from the first one on, and what lacks put first.

    Without entries the row gets it all.
    """
    kept, left = [], n
    for one, count in entries:
        kept.append((one, min(count, left)))
        left = left - min(count, left)
    return kept + [(entries[0][0] if entries else row, left)]


def fitted(one, other):
    """The table other as it is led to agree with one."""
    mine, theirs = one.heading(), other.heading()
    seam, others = shared(theirs, mine), beyond(theirs, mine)
    entries, noughts = by_part(other, mine), marked_row(others, ())
    counts = []
    # What has a part that one has not, leaves altogether: so the parts that one has are enough.
    for small, n in summed(one, theirs).counts():
        counts.extend(counts_led(entries.get(small, []), n, put_together(seam, small, others, noughts)))
    return Table(theirs, counts)


def with_holder(state, deed):
    """The state in which a new holder has come; BadName(name), then the table's BadHeading(heading), then TooMany()."""
    _, name, heading = deed
    if not is_word(name) or name in state:
        raise BadName(name)
    made = put_in_order({**state, name: Table(heading, [])})
    must_have_room(web_of(made))
    return made


def without_holder(state, deed):
    """The state in which a holder has gone."""
    gone = deed[1]
    table_of(state, gone)
    return put_in_order({name: state[name] for name in state if name != gone})


def must_be_entry(table, row, n):
    """None; NoRow(row) if a value is no row over the heading, BadNumber(n) if one is no integer from 1 on."""
    if not is_row(table.heading(), row):
        raise NoRow(row)
    if not is_number(n) or n < 1:
        raise BadNumber(n)


def with_more(state, deed):
    """The state in which a holder's table has a row more often."""
    _, name, row, n = deed
    table = table_of(state, name)
    must_be_entry(table, row, n)
    return put_in_order({**state, name: table + Table(table.heading(), [(row, n)])})


def with_less(state, deed):
    """The state in which a holder's table has a row less often; TooFew(row)."""
    _, name, row, n = deed
    table = table_of(state, name)
    must_be_entry(table, row, n)
    return put_in_order({**state, name: table - Table(table.heading(), [(row, n)])})


def recalled(table, called):
    """The table whose columns are called as the dict tells, the values going with them."""
    names = [called[column] for column in table.heading()]
    made = renamed_heading(table.heading(), called)
    places = [names.index(name) for name in made]
    return Table(made, [(tuple([row[place] for place in places]), count) for row, count in table.counts()])


def with_renamed(state, deed):
    """The state in which a column has another name."""
    _, old, new = deed
    columns = columns_of(web_of(state))
    if old not in columns:
        raise UnknownColumn(old)
    if not is_word(new) or new in beyond(columns, (old,)):
        raise BadName(new)
    called = {column: new if column == old else column for column in columns}
    return put_in_order({name: recalled(state[name], called) for name in state})


def with_fitted(state, deed):
    """The state in which mate's table is led to agree with name's."""
    _, name, mate = deed
    one, other = table_of(state, name), table_of(state, mate)
    return put_in_order({**state, mate: fitted(one, other)})


MAKERS = {"holder": with_holder, "leave": without_holder, "put": with_more, "take": with_less, "rename": with_renamed,
          "fit": with_fitted}


def has_deed_form(value):
    """Whether any value is a tuple that begins with a deed's word and has as many parts as the deed."""
    if not isinstance(value, tuple) or value == () or not isinstance(value[0], str):
        return False
    return value[0] in PARTS and len(value) == PARTS[value[0]]


def behind(state, deed):
    """The state that a deed, any value, makes of a state."""
    if not has_deed_form(deed):
        raise BadDeed()
    make = MAKERS[deed[0]]
    return make(state, deed)


def letters(state):
    """The list of deeds that make all tables agree, from the root's on; Cored(core) if the web does not fold."""
    if not state:
        return []
    names = sorted(state)
    return [("fit", names[y], names[x]) for x, y in folded(web_of(state))[::-1]]


def verdict(state):
    """What is to be told of the state: that it is empty, a core, two holders who are apart, or a whole."""
    if not state:
        return ("empty",)
    web, family, names = web_of(state), family_of(state), sorted(state)
    if folding(web) is None:
        return "core", core(web)
    told = disagreement(web, family)
    if told is not None:
        x, y, row = told
        return "apart", names[x], names[y], row
    return "whole", whole(web, family)


def deed_text(deed):
    """The text of a deed that can be done in some state."""
    word = deed[0]
    if word == "holder":
        return f"{word} {deed[1]} {heading_text(deed[2])}"
    if word in ("put", "take"):
        return f"{word} {deed[1]} {row_text(deed[2])} {deed[3]}"
    return " ".join(deed)


def is_figures(text, most):
    """Whether a string is a number of at most so many figures, without leading zeros."""
    if not 1 <= len(text) <= most or not all([sign in FIGURES for sign in text]):
        return False
    return text == "0" or text[0] != "0"


def must_be(right):
    """None; BadText(0) if something is not right."""
    if not right:
        raise BadText(0)


def read_name(text):
    """A name or a column."""
    must_be(is_word(text))
    return text


def read_parts(words, first, last):
    """The list of the words that stand between these two signs in what the words, joined by blanks, make."""
    text = " ".join(words)
    must_be(len(text) >= 2 and text[0] == first and text[-1] == last)
    return text[1:-1].split(" ") if len(text) > 2 else []


def read_heading(words):
    """The heading of these words."""
    columns = tuple(read_parts(words, "[", "]"))
    must_be(is_heading(columns))
    return columns


def read_values(words):
    """The row of these words."""
    values = read_parts(words, "(", ")")
    must_be(len(values) <= MOST_COLUMNS and all([is_figures(worth, MOST_VALUE_FIGURES) for worth in values]))
    return tuple([int(worth) for worth in values])


def read_many(text):
    """A number from 1 on."""
    must_be(is_figures(text, MOST_COUNT_FIGURES) and text != "0")
    return int(text)


def read_deed(text):
    """The deed of a text, any value; BadText(0) if it is of no deed's form."""
    must_be(isinstance(text, str))
    words = text.split(" ")
    word, names = words[0], words[1:2]
    must_be(word in PARTS and len(words) >= PARTS[word])
    if word == "holder":
        return word, read_name(names[0]), read_heading(words[2:])
    if word in ("put", "take"):
        return word, read_name(names[0]), read_values(words[2:-1]), read_many(words[-1])
    must_be(len(words) == PARTS[word])
    return tuple([word] + [read_name(name) for name in words[1:]])
