"""Few regions: worlds led by exchanges to such as have things in few of them."""

from countfold.cases import case_at, cases_of
from countfold.errors import NoWorld
from countfold.exchanges import column, exchanged


def is_few(talk, rows, world):
    """Whether a world is few by rows."""
    return _like_columns(talk, rows, world) is None


def _like_columns(talk, rows, world):
    """Two unlike groups of regions that have things, of one column; None where there are none."""
    seen = {}
    for group in _groups([region for region in range(talk.regions()) if world[0][region] > 0]):
        found = tuple(column(rows, group))
        if found in seen:
            return seen[found], group
        seen[found] = group
    return None


def _groups(regions):
    """All groups of these regions, which rise."""
    groups = [()]
    for region in regions:
        groups = groups + [group + (region,) for group in groups]
    return groups


def few_of(talk, rows, world):
    """Exchanges, in a list, that lead a world to a few one; and that one."""
    exchanges = []
    pair = _like_columns(talk, rows, world)
    while pair is not None:
        exchange = _exchange(world, pair[0], pair[1])
        exchanges.append(exchange)
        world = exchanged(talk, rows, world, [exchange])
        pair = _like_columns(talk, rows, world)
    return exchanges, world


def _exchange(world, first, second):
    """The exchange between unlike groups of one column that leaves one of its regions without things."""
    # What both have counts alike on either side.
    one = tuple([region for region in first if region not in second])
    other = tuple([region for region in second if region not in first])
    if len(one) < len(other):
        one, other = other, one
    return one, other, min([world[0][region] for region in one])


def rows_at(talk, sayings, world):
    """The rows of the pieces of the first case that is true in a world."""
    number = case_at(talk, sayings, world)
    if number is None:
        raise NoWorld("not all sayings are true in the world")
    return tuple([piece[-1] for piece in cases_of(talk, sayings)[number]])


def few_world(talk, sayings, world):
    """Exchanges that lead a world in which all sayings are true to a few one in which they are; and that one."""
    return few_of(talk, rows_at(talk, sayings, world), world)
