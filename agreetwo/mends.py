"""All cores of a web, and what takes them away: a column, a heading, or one heading more."""

from agreetwo.cores import LEAST_SHELL, choices, core_over
from agreetwo.ears import folding
from agreetwo.webchanges import without_heading
from agreetwo.webs import columns_of


def cores(web):
    """The list of all cores of the web, fewer columns ahead of more, then by the columns as a heading."""
    columns = columns_of(web)
    lots = [chosen for many in range(LEAST_SHELL, len(columns) + 1) for chosen in choices(columns, many)]
    found = [core_over(web, chosen) for chosen in lots]
    return [told for told in found if told is not None]


def critical(web):
    """The heading of the columns that stand in all cores; () if there is no core."""
    circles = [columns for _, columns in cores(web)]
    if not circles:
        return ()
    return tuple([column for column in columns_of(web) if all([column in columns for columns in circles])])


def breaking(web):
    """The list of the numbers of those headings without which the web folds, which it does not with them."""
    if folding(web) is not None:
        return []
    return [x for x in range(len(web)) if folding(without_heading(web, x)) is not None]


def healing(web):
    """The heading with the fewest columns, of these the first one, such that the web with it folds."""
    columns = columns_of(web)
    lots = [chosen for many in range(len(columns)) for chosen in choices(columns, many)]
    for chosen in lots:
        if folding(web + (chosen,)) is not None:
            return chosen
    # The heading of all columns heals each web: each other one is an ear by it.
    return columns
