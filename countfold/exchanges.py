"""Exchanges: things of some regions for things of others, which no row tells apart."""

from countfold.errors import NoExchange
from countfold.names import is_whole


def column(rows, group):
    """For each row the coefs of the group's regions, added."""
    return [sum([row[1 + region] for region in group]) for row in rows]


def can_exchange(talk, rows, world, thing):
    """Whether a thing is an exchange that can be at a world."""
    if not isinstance(thing, tuple) or len(thing) != 3:
        return False
    one, other, often = thing
    if not _is_group(talk, one) or not _is_group(talk, other) or not is_whole(often, least=1):
        return False
    if not one or len(one) < len(other) or any([region in other for region in one]):
        return False
    if any([world[0][region] < often for region in one]):
        return False
    return column(rows, one) == column(rows, other)


def _is_group(talk, thing):
    """Whether a thing is a rising tuple of regions."""
    if not isinstance(thing, tuple):
        return False
    # Regions first: things that are no numbers may have no order.
    if not all([is_whole(region, least=0, most=talk.regions() - 1) for region in thing]):
        return False
    return all([low < high for low, high in zip(thing, thing[1:])])


def exchanged(talk, rows, world, exchanges):
    """The world behind exchanges, one behind the other."""
    for exchange in exchanges:
        if not can_exchange(talk, rows, world, exchange):
            raise NoExchange(exchange)
        world = _behind(world, exchange)
    return world


def _behind(world, exchange):
    """The world behind an exchange that can be."""
    one, other, often = exchange
    counts = list(world[0])
    for region in one:
        counts[region] -= often
    for region in other:
        counts[region] += often
    return tuple(counts), world[1]
