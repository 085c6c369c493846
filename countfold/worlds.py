"""Worlds: how many things lie in each region, and the values of the numbers."""

from math import comb

from countfold.errors import NoNumber
from countfold.names import is_whole


def is_world(talk, thing):
    """Whether a thing is a world of the talk."""
    if not isinstance(thing, tuple) or len(thing) != 2:
        return False
    counts, values = thing
    if not _are_wholes(counts, talk.regions(), talk.most()):
        return False
    return sum(counts) <= talk.most() and _are_wholes(values, len(talk.numbers()), talk.most())


def _are_wholes(thing, many, most):
    """Whether a thing is a tuple of so many whole numbers, each from 0 to most."""
    if not isinstance(thing, tuple) or len(thing) != many:
        return False
    return all([is_whole(part, least=0, most=most) for part in thing])


def worlds_many(talk):
    """How many worlds the talk has."""
    return _counts_many(talk.most(), talk.regions()) * _values_many(talk)


def _counts_many(things, regions):
    """How many tuples of a count for each of so many regions there are, of so many things at most."""
    return comb(things + regions, regions)


def _values_many(talk):
    """How many tuples of values there are."""
    many = 1
    for _ in talk.numbers():
        many *= talk.most() + 1
    return many


def world_at(talk, number):
    """The world of this number."""
    if not is_whole(number, least=0, most=worlds_many(talk) - 1):
        raise NoNumber(number)
    of_counts, of_values = divmod(number, _values_many(talk))
    return _counts_at(talk, of_counts), _values_at(talk, of_values)


def _counts_at(talk, number):
    counts = []
    left = talk.most()
    for regions in range(talk.regions(), 0, -1):
        # As many tuples begin with a count or a greater one as there are of the things it leaves.
        behind = _counts_many(left, regions) - number
        rest = _least_things(behind, regions, left)
        number = _counts_many(rest, regions) - behind
        counts.append(left - rest)
        left = rest
    return tuple(counts)


def _least_things(many, regions, most):
    """The least number of things of which there are so many tuples of counts or more; most has so many."""
    low, high = 0, most
    while low < high:
        middle = (low + high) // 2
        if _counts_many(middle, regions) < many:
            low = middle + 1
        else:
            high = middle
    return low


def _values_at(talk, number):
    values = []
    for _ in talk.numbers():
        number, value = divmod(number, talk.most() + 1)
        values.append(value)
    return tuple(values[::-1])


def number_of(talk, world):
    """The number of a world."""
    counts, values = world
    number = 0
    left = talk.most()
    regions = talk.regions()
    for count in counts:
        number += _counts_many(left, regions) - _counts_many(left - count, regions)
        left -= count
        regions -= 1
    for value in values:
        number = number * (talk.most() + 1) + value
    return number


def members_of(talk, world):
    """For each set the list of its things, rising."""
    members = {name: [] for name in talk.sets()}
    first = 0
    for region, count in enumerate(world[0]):
        things = list(range(first, first + count))
        for name in talk.sets():
            if talk.lies(region, name):
                members[name].extend(things)
        first += count
    return members


def counted(talk, members, *, many, values=()):
    """The world of things 0 to below many, these of them in the sets."""
    if many > talk.most():
        raise NoNumber(many)
    for value in values:
        if not is_whole(value, least=0, most=talk.most()):
            raise NoNumber(value)
    return world_of(talk, members, many, values)


def world_of(talk, members, many, values):
    """What counted tells, and nothing refused."""
    regions = {}
    for place, name in enumerate(talk.sets()):
        for thing in members[name]:
            regions[thing] = regions.get(thing, 0) | (1 << place)
    counts = [0] * talk.regions()
    counts[0] = many - len(regions)
    for region in regions.values():
        counts[region] += 1
    return tuple(counts), tuple(values)
