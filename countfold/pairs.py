"""Pairs: a case of ones and a case of others in one system, linked in what both bear, and papers parted by them."""

from countfold.papers import shows_no
from countfold.parts import region_led, shared
from countfold.systems import system_of, width_of


def pair_system(one, case, other, other_case):
    """The system of a case over one part and of a case over another."""
    width, other_width = width_of(one, case), width_of(other, other_case)
    system = [(kind, row + (0,) * other_width) for kind, row in system_of(one, case)]
    system.extend([(kind, row[:1] + (0,) * width + row[1:]) for kind, row in system_of(other, other_case)])
    system.extend([("nought", row) for row in _links(one, width, other, other_width)])
    return tuple(system)


def _links(one, width, other, other_width):
    """The rows that are worth 0 where both parts tell the same of what is shared."""
    both = shared(one, other)
    links = []
    for region in range(both.regions()):
        links.append((0, *_coefs(_places_in(one, region, both), width, 1),
                      *_coefs(_places_in(other, region, both), other_width, -1)))
    for name in both.numbers():
        links.append((0, *_coefs([one.place(name)], width, 1), *_coefs([other.place(name)], other_width, -1)))
    return links


def _places_in(part, region, both):
    """The regions of a part that lie in a shared one."""
    return [place for place in range(part.regions()) if region_led(part, place, both) == region]


def _coefs(places, width, coef):
    """Coefs that are 0 but at these places."""
    return [coef if place in places else 0 for place in range(width)]


def is_parted(one, case, other, other_case, thing):
    """Whether a thing is a parted paper of the pair."""
    width = width_of(one, case)
    if not shows_no(pair_system(one, case, other, other_case), thing, width=width + width_of(other, other_case)):
        return False
    return all([is_of_ones(step[1], width) or is_of_others(step[1], width) for step in thing if step[0] == "split"])


def is_of_ones(row, width):
    """Whether a row of a pair, whose ones have so many unknowns, has coefs on these alone, or none."""
    return not any(row[1 + width:])


def is_of_others(row, width):
    """Whether a row of a pair, whose ones have so many unknowns, has coefs on the others' unknowns alone, or none."""
    return not any(row[1:1 + width])
