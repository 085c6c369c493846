"""Sayings: what is said of sums and terms, and what is made of sayings."""

from countfold.names import is_whole
from countfold.sums import is_sum
from countfold.terms import is_term

DEEPEST = 6
MOST_PARTS = 24

# How many sayings stand behind each word that makes a saying of others.
_TAKES = {"not": 1, "both": 2, "either": 2}


def is_saying(talk, thing):
    """Whether a thing is a saying of the talk."""
    layer = [thing]
    parts = 0
    # Layer by layer, so that no more is looked at than a saying may have.
    for _ in range(DEEPEST):
        parts += len(layer)
        if parts > MOST_PARTS or not all([is_headed(talk, part) for part in layer]):
            return False
        layer = [under for part in layer for under in sayings_under(part)]
    return not layer


def is_headed(talk, thing):
    """Whether a thing is a saying, whatever stands where others have sayings within."""
    if not isinstance(thing, tuple) or not thing or not isinstance(thing[0], str):
        return False
    word = thing[0]
    if word in _TAKES:
        return len(thing) == 1 + _TAKES[word]
    if len(thing) != 3:
        return False
    if word in ("atmost", "equal"):
        return is_sum(talk, thing[1]) and is_sum(talk, thing[2])
    if word == "parts":
        return is_whole(thing[1], least=2) and is_sum(talk, thing[2])
    return word in ("within", "same") and is_term(talk, thing[1]) and is_term(talk, thing[2])


def sayings_under(saying):
    """The sayings right within a saying."""
    return saying[1:] if saying[0] in _TAKES else ()


def sayings_in(saying):
    """A saying and all within it, each ahead of those within it, the first of two ahead of the second."""
    # Not by calls within calls: a saying that is told can be deeper than they may be.
    found = []
    waiting = [saying]
    while waiting:
        part = waiting.pop()
        found.append(part)
        waiting.extend(sayings_under(part)[::-1])
    return found


def names_in(saying):
    """The names of sets and numbers in a saying, rising."""
    names = [name for part in sayings_in(saying) for name in _names_right_in(part)]
    return sorted(set(names))


def _names_right_in(saying):
    """The names in the sums and terms of a saying, without the sayings within it."""
    word = saying[0]
    if word in _TAKES:
        return []
    if word in ("within", "same"):
        return _names_of_term(saying[1]) + _names_of_term(saying[2])
    sums = saying[2:] if word == "parts" else saying[1:]
    return [name for addends in sums for addend in addends for name in _names_of_addend(addend)]


def _names_of_addend(addend):
    if addend[0] == "num":
        return [addend[2]]
    if addend[0] == "size":
        return _names_of_term(addend[2])
    return []


def _names_of_term(term):
    if isinstance(term, str):
        return [term]
    return [name for under in term[1:] for name in _names_of_term(under)]
