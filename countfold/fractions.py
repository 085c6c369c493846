"""Fits in fractions: a point that fits a system, or weights with which its rows clash."""

from countfold.names import is_whole
from countfold.rows import added, divisor_of, row_worth
from countfold.tables import Table
from countfold.wholes import are_weights


def fitted(system, *, width):
    """A point of the system, or a clash."""
    table = Table(system, width=width)
    weights = table.clash()
    if weights is not None:
        return "clash", weights
    numerators, divisor = table.point()
    shared = divisor_of((0, *numerators, divisor))
    return "point", tuple([number // shared for number in numerators]), divisor // shared


def is_point(system, thing, *, width):
    """Whether a thing is a point of the system."""
    if not isinstance(thing, tuple) or len(thing) != 2:
        return False
    numerators, divisor = thing
    if not are_weights(numerators, width) or not is_whole(divisor, least=1):
        return False
    return fits_over(system, numerators, divisor)


def fits_over(system, numerators, divisor):
    """Whether the values numerator / divisor fit the system."""
    if any([number < 0 for number in numerators]):
        return False
    for kind, row in system:
        worth = row_worth((row[0] * divisor, *row[1:]), numerators)
        if worth < 0 or (kind == "nought" and worth > 0):
            return False
    return True


def is_clash(system, thing, *, width):
    """Whether a thing is weights with which the system's rows clash."""
    if not are_weights(thing, len(system)):
        return False
    if any([weight < 0 and kind == "least" for weight, (kind, _) in zip(thing, system)]):
        return False
    row = added([row for _, row in system], thing, width=width)
    return row[0] < 0 and all([coef <= 0 for coef in row[1:]])
