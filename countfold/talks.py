"""Talks: names of sets and of numbers, and a bound."""

from countfold.errors import NoName, NoRegion, NoTalk
from countfold.names import MOST, figures, is_name, is_whole

_MOST_SETS = 3
_MOST_NUMBERS = 2


def _are_names(thing, many):
    """Whether a thing is a rising tuple of at most so many names."""
    if not isinstance(thing, tuple) or len(thing) > many:
        return False
    # Names first: things that are no texts may have no order.
    if not all([is_name(name) for name in thing]):
        return False
    return all([low < high for low, high in zip(thing, thing[1:])])


class Talk:
    """What is talked of; it is never changed once it is made."""

    def __init__(self, sets=(), numbers=(), *, most=MOST):
        if not _are_names(sets, _MOST_SETS):
            raise NoTalk("sets are a rising tuple of at most three names")
        if not _are_names(numbers, _MOST_NUMBERS):
            raise NoTalk("numbers are a rising tuple of at most two names")
        if any([name in sets for name in numbers]):
            raise NoTalk("no name is a set's and a number's")
        if not is_whole(most, least=1):
            raise NoTalk("most is a whole number from 1 on")
        self._sets = sets
        self._numbers = numbers
        self._most = most
        # What each unknown is of, in order: a region, or a number by its name.
        self._unknowns = tuple(range(1 << len(sets))) + numbers

    def sets(self):
        """The names of the sets."""
        return self._sets

    def numbers(self):
        """The names of the numbers."""
        return self._numbers

    def most(self):
        """How many things there are at most, and how great a number is at most."""
        return self._most

    def regions(self):
        """How many regions there are."""
        return 1 << len(self._sets)

    def lies(self, region, name):
        """Whether the things of a region are in a set."""
        self._check_region(region)
        if name not in self._sets:
            raise NoName(name)
        return region & (1 << self._sets.index(name)) != 0

    def place(self, name):
        """The place of a number among the unknowns."""
        if name not in self._numbers:
            raise NoName(name)
        return self._unknowns.index(name)

    def wider(self, name):
        """The talk with one set more."""
        if not is_name(name):
            raise NoTalk("the further set has no name")
        # A name that is a set's already then stands twice, and Talk refuses it.
        sets = tuple(sorted(self._sets + (name,)))
        return Talk(sets, self._numbers, most=self._most)

    def halves(self, region, name):
        """The two regions of the wider talk that a region falls into: without the set, with it."""
        bit = self.wider(name).sets().index(name)
        self._check_region(region)
        low = region & ((1 << bit) - 1)
        # The bits of the sets behind the further one make room for its own.
        without = ((region - low) << 1) | low
        return without, without | (1 << bit)

    def _check_region(self, region):
        if not is_whole(region, least=0, most=self.regions() - 1):
            raise NoRegion(region)

    def __eq__(self, other):
        return (isinstance(other, Talk) and self._sets == other._sets
                and self._numbers == other._numbers and self._most == other._most)

    def __len__(self):
        return len(self._unknowns)

    def __str__(self):
        return ";".join([",".join(self._sets), ",".join(self._numbers), figures(self._most)])

    def __repr__(self):
        return f"Talk({len(self._sets)} sets, {len(self._numbers)} numbers, most {figures(self._most)})"
