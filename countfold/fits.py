"""Fits in whole numbers: whole values from 0 on that fit a system, or a paper that there are none."""

from countfold.fractions import fits_over
from countfold.searches import Search, reads_of
from countfold.tables import Table
from countfold.wholes import settled


def fits(system, values):
    """Whether whole values fit the system."""
    return fits_over(system, values, 1)


def whole_fit(system, *, width):
    """Whole values that fit a narrow system, or a paper of it."""
    noughts = [number for number, (kind, _) in enumerate(system) if kind == "nought"]
    paper = settled([system[number][1] for number in noughts], width=width)
    if paper[0] == "rest":
        weights = [0] * len(system)
        for number, weight in zip(noughts, paper[1]):
            weights[number] = weight
        return "no", (("rest", tuple(weights), paper[2]),)
    table = Table(system, width=width)
    weights = table.clash()
    if weights is not None:
        return "no", (("clash", weights),)
    return ("fit", table.wholes()) if table.has_wholes() else _searched(system, table, width)


def _searched(system, table, width):
    """Whole values that fit, or a paper, of a system whose table fits."""
    reads = reads_of(system, table, width=width)
    # What takes one search long mostly takes the other one not: so both go on by turns.
    searches = [Search(table.twin(), reads, by_middles=False), Search(table, reads, by_middles=True)]
    while True:
        for search in searches:
            answer = search.look()
            if answer is not None:
                return answer
