"""Fits in whole numbers: whole values from 0 on that fit a system, or a paper that there are none."""

from countfold.fractions import fits_over
from countfold.reads import reads_of
from countfold.searches import Search
from countfold.sides import sided_reads
from countfold.tables import Table
from countfold.wholes import settled


def fits(system, values):
    """Whether whole values fit the system."""
    return fits_over(system, values, 1)


def whole_fit(system, *, width):
    """Whole values that fit a narrow system, or a paper of it."""
    return _fit(system, width, None)


def parted_fit(system, *, width, ones):
    """Whole values that fit, or a paper whose splits have coefs on the first so many unknowns alone, or on the others.
    """
    return _fit(system, width, ones)


def _fit(system, width, ones):
    noughts = [number for number, (kind, _) in enumerate(system) if kind == "nought"]
    paper = settled([system[number][1] for number in noughts], width=width)
    if paper[0] == "rest":
        weights = [0] * len(system)
        for number, weight in zip(noughts, paper[1]):
            weights[number] = weight
        return "no", (("rest", tuple(weights), paper[2]),)
    table = Table(system, width=width)
    weights = table.clash()
    if weights is not None:
        return "no", (("clash", weights),)
    if table.has_wholes():
        return "fit", table.wholes()
    if ones is None:
        return _searched(table, [reads_of(system, table, width=width)])
    return _searched(table, sided_reads(system, table, width=width, ones=ones))


def _searched(table, readings):
    """Whole values that fit, or a paper, of a table that fits, split by one of several tuples of reads."""
    # What takes one search long mostly takes another one not: so all go on by turns.
    searches = []
    for reads in readings:
        searches.append(Search(table.twin(), reads, by_middles=False))
        searches.append(Search(table.twin(), reads, by_middles=True))
    while True:
        for search in searches:
            answer = search.look()
            if answer is not None:
                return answer
