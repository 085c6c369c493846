"""Systems: rows that whole values from 0 on fit just where a case's pieces are true."""

from countfold.cases import holds_in
from countfold.rows import row_worth

# How many unknowns a piece adds, by its word.
_ADDED = {"parts": 1, "unparts": 2}


def least_worth(talk, row):
    """The least that a row over the talk's unknowns is worth in any world."""
    counts, values = row[1:1 + talk.regions()], row[1 + talk.regions():]
    # All things lie where they count least, and none are there if each one counts above 0.
    least = min([0, *counts]) + sum([min(0, coef) for coef in values])
    return row[0] + talk.most() * least


def greatest_worth(talk, row):
    """The greatest that a row over the talk's unknowns is worth in any world."""
    return -least_worth(talk, [-number for number in row])


def width_of(talk, case):
    """How many unknowns a case's system has."""
    return len(talk) + sum([_ADDED.get(piece[0], 0) for piece in case])


def system_of(talk, case):
    """The system of a case."""
    width = width_of(talk, case)
    system = _bounds(talk, width)
    place = len(talk)
    for piece in case:
        system.extend(_rows_of(talk, piece, place, width))
        place += _ADDED.get(piece[0], 0)
    return tuple(system)


def _bounds(talk, width):
    """The rows that bound how many things there are, and each number."""
    regions = list(range(talk.regions()))
    bounds = [_row(width, talk.most(), {region: -1 for region in regions})]
    for name in talk.numbers():
        bounds.append(_row(width, talk.most(), {talk.place(name): -1}))
    return [("least", row) for row in bounds]


def _row(width, constant, coefs):
    """The row of a constant and a dict of coefs by unknowns, the others 0."""
    return (constant, *[coefs.get(place, 0) for place in range(width)])


def _rows_of(talk, piece, place, width):
    """The rows of a piece whose own unknowns begin at a place."""
    row = piece[-1]
    coefs = {at: coef for at, coef in enumerate(row[1:])}
    if piece[0] not in _ADDED:
        return [(piece[0], _row(width, row[0], coefs))]
    divisor = piece[1]
    constant = row[0] + divisor * _lift(talk, piece)
    coefs[place] = -divisor
    if piece[0] == "parts":
        return [("nought", _row(width, constant, coefs))]
    coefs[place + 1] = -1
    return [("nought", _row(width, constant, coefs)), ("least", _row(width, -1, {place + 1: 1})),
            ("least", _row(width, divisor - 1, {place + 1: -1}))]


def _lift(talk, piece):
    """How often the divisor is added at least, so that the row is 0 or more in every world."""
    # Divided down, with the signs turned, is divided up.
    return max(0, -(least_worth(talk, piece[-1]) // piece[1]))


def values_of(talk, world, case):
    """The values of all unknowns that fit the case's system in a world; None where a piece isn't true."""
    if not all([holds_in(talk, world, piece) for piece in case]):
        return None
    counts, values = world
    found = [*counts, *values]
    known = list(found)
    for piece in case:
        if piece[0] in _ADDED:
            often, rest = divmod(row_worth(piece[-1], known), piece[1])
            found.append(often + _lift(talk, piece))
            found.extend([rest] if piece[0] == "unparts" else [])
    return tuple(found)
