"""Families of a web with a core that agree and have no whole, and the rows of noughts and ones over a core.

A GROUP here is a tuple of columns that have one value together; a row of noughts and ones is told by those of the
groups that have 1.
"""

from agreetwo.cores import core_headings, cored
from agreetwo.headings import beyond, lies_within, put_together, shared
from agreetwo.tables import Table, summed
from agreetwo.webs import columns_of


def choices_of(groups):
    """The list of all tuples of some of the groups, in their order; () is one."""
    found = [()]
    for group in groups:
        found = found + [chosen + (group,) for chosen in found]
    return found


def marked_row(heading, groups):
    """The row over the heading that has 1 at the columns of the groups, and 0 elsewhere."""
    return tuple([1 if any([column in group for group in groups]) else 0 for column in heading])


def marked_table(heading, choices):
    """The table that has, once each, the marked rows of all the tuples of groups."""
    return Table(heading, [(marked_row(heading, groups), 1) for groups in choices])


def lots_of_core(core):
    """The lots of a core, as headings, in the order of its columns."""
    word, columns = core
    if word == "shell":
        return [(column,) for column in columns]
    return [columns[:1], columns[1:2], tuple(sorted(columns[2:]))]


def lots_of(web):
    """The lots of the web's core; Folds(pairs) if the web folds."""
    return lots_of_core(cored(web))


def is_called(chosen, word):
    """Whether a row in which so many lots have 1 is what the word says."""
    if word == "unit":
        return len(chosen) == 1
    if word == "even":
        return len(chosen) % 2 == 0
    if word == "odd":
        return len(chosen) % 2 == 1
    return True


def core_rows(web, word):
    """The ascending list of the core rows that are "unit", "even" or "odd" rows, or of "all"."""
    columns = columns_of(web)
    return sorted([marked_row(columns, chosen) for chosen in choices_of(lots_of(web)) if is_called(chosen, word)])


def core_table(web, word):
    """The table over all columns that has these core rows once each; Folds(pairs) if the web folds."""
    return Table(columns_of(web), [(row, 1) for row in core_rows(web, word)])


def table_over_core(heading, lots):
    """The table over a core heading in which just one of the heading's lots has 1 in each row.

    If the heading lies in one lot alone, the row of noughts is there, too: so all these tables have one total.
    """
    choices = [(lot,) for lot in lots if shared(heading, lot) != ()]
    return marked_table(heading, choices + [()] if len(choices) == 1 else choices)


def widened(table, heading):
    """The table over the heading, which has all the table's columns, with 0 at all others."""
    narrow = table.heading()
    others = beyond(heading, narrow)
    noughts = marked_row(others, ())
    return Table(heading, [(put_together(narrow, row, others, noughts), count) for row, count in table.counts()])


def broken(web):
    """A family that agrees and has no whole; Folds(pairs) if the web folds."""
    core = cored(web)
    lots, headings = lots_of_core(core), core_headings(core)
    family = []
    for heading in web:
        inside = shared(heading, core[1])
        holder = [other for other in headings if lies_within(inside, other)][0]
        family.append(widened(summed(table_over_core(holder, lots), heading), heading))
    return family
