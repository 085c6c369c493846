"""Parts: talks of some of a talk's names, worlds led to them, and worlds joined."""

from countfold.errors import NoWorld
from countfold.sayings import names_in
from countfold.talks import Talk


def part_of(talk, sayings):
    """The part of the names in sayings."""
    return _part(talk, [name for saying in sayings for name in names_in(saying)])


def _part(talk, names):
    """The part of these names, in any order, perhaps twice; others are left out."""
    sets = tuple([name for name in talk.sets() if name in names])
    numbers = tuple([name for name in talk.numbers() if name in names])
    return Talk(sets, numbers, most=talk.most())


def shared(one, other):
    """The part of the names in both of two parts."""
    return _part(one, other.sets() + other.numbers())


def led(talk, world, part):
    """The world of a part that a world is led to."""
    counts = [0] * part.regions()
    for region, count in enumerate(world[0]):
        counts[region_led(talk, region, part)] += count
    values = [value for name, value in zip(talk.numbers(), world[1]) if name in part.numbers()]
    return tuple(counts), tuple(values)


def region_led(talk, region, part):
    """The region of a part in which the things of a region lie."""
    return sum([1 << place for place, name in enumerate(part.sets()) if talk.lies(region, name)])


def joined(talk, one, world, other, other_world):
    """A world of the talk that is led to a world of one part and to one of another."""
    both = shared(one, other)
    if led(one, world, both) != led(other, other_world, both):
        raise NoWorld("the worlds aren't alike in what both bear")
    counts = [0] * talk.regions()
    lefts = _lots(one, world, both)
    rights = _lots(other, other_world, both)
    for region in range(both.regions()):
        for first, second, count in _matched(lefts[region], rights[region]):
            counts[_region_joined(talk, one, first, other, second)] += count
    return tuple(counts), _values_joined(talk, one, world, other, other_world)


def _lots(part, world, both):
    """For each shared region the part's regions in it that have things, each with how many."""
    lots = [[] for _ in range(both.regions())]
    for region, count in enumerate(world[0]):
        if count > 0:
            lots[region_led(part, region, both)].append((region, count))
    return lots


def _matched(lefts, rights):
    """Regions of one part and of another with how many things lie in both, of lots with as many things in all."""
    found = []
    waiting = list(rights[::-1])
    for region, count in lefts:
        while count > 0:
            other, most = waiting.pop()
            many = min(count, most)
            found.append((region, other, many))
            count -= many
            if most > many:
                waiting.append((other, most - many))
    return found


def _region_joined(talk, one, region, other, other_region):
    """The talk's region of what lies in a region of one part and in one of another."""
    found = 0
    for place, name in enumerate(talk.sets()):
        if _is_in(one, region, name) or _is_in(other, other_region, name):
            found |= 1 << place
    return found


def _is_in(part, region, name):
    """Whether the part tells that the region's things are in a set."""
    return name in part.sets() and part.lies(region, name)


def _values_joined(talk, one, world, other, other_world):
    """The values of the talk's numbers, 0 of those in neither part."""
    values = dict(zip(one.numbers() + other.numbers(), world[1] + other_world[1]))
    return tuple([values.get(name, 0) for name in talk.numbers()])
