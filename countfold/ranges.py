"""Ranges: the least and the greatest worth of a sum where sayings are true, and why it is no less and no more."""

from countfold.cases import cases_of
from countfold.errors import NoSum, NoWorld
from countfold.leasts import least_fit
from countfold.names import is_whole
from countfold.prover import are_papers, asked, check_sayings, world_of_values
from countfold.sums import is_sum, row_of, worth_of
from countfold.systems import system_of, width_of
from countfold.truth import is_true
from countfold.worlds import is_world


def ranged(talk, sayings=(), *, total):
    """The range of a sum: least, world, papers, greatest, world, papers."""
    _check(talk, sayings, total)
    cases = cases_of(talk, sayings)
    row = row_of(talk, total)
    least, least_world = _least(talk, cases, row)
    greatest, greatest_world = _least(talk, cases, [-number for number in row])
    greatest = -greatest
    _, low = asked(talk, (*sayings, _below(total, least)))
    _, high = asked(talk, (*sayings, _above(total, greatest)))
    return least, least_world, low, greatest, greatest_world, high


def _check(talk, sayings, total):
    check_sayings(talk, sayings)
    if not is_sum(talk, total):
        raise NoSum(total)


def _least(talk, cases, row):
    """The least worth of a row in the worlds of the cases, and a world where it is that."""
    best = None
    for case in cases:
        width = width_of(talk, case)
        goal = [*row, *[0] * (width - len(talk))]
        found = least_fit(system_of(talk, case), width=width, goal=goal, below=None if best is None else best[0])
        best = best if found is None else found
    if best is None:
        raise NoWorld("the sayings can't all be true")
    return best[0], world_of_values(talk, best[1])


def _below(total, least):
    """That a sum is worth less."""
    return ("atmost", total, (("lot", least - 1),))


def _above(total, greatest):
    """That a sum is worth more."""
    return ("atmost", (("lot", greatest + 1),), total)


def shows_range(talk, sayings, thing, *, total):
    """Whether a thing is the range of a sum."""
    _check(talk, sayings, total)
    # TooMany is refused whatever the thing is.
    cases_of(talk, sayings)
    if not isinstance(thing, tuple) or len(thing) != 6:
        return False
    least, least_world, low, greatest, greatest_world, high = thing
    if not is_whole(least) or not is_whole(greatest):
        return False
    if not _is_worth(talk, sayings, total, least, least_world):
        return False
    if not _is_worth(talk, sayings, total, greatest, greatest_world):
        return False
    return (are_papers(talk, (*sayings, _below(total, least)), low)
            and are_papers(talk, (*sayings, _above(total, greatest)), high))


def _is_worth(talk, sayings, total, worth, world):
    """Whether a thing is a world in which all sayings are true and the sum is worth so much."""
    if not is_world(talk, world) or worth_of(talk, world, total) != worth:
        return False
    return all([is_true(talk, world, saying) for saying in sayings])
