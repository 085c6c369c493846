"""Plays: why a broad saying is true in a world, or false; and the least world where it is false."""

from countfold.broad import check_broad, is_true_at, shares_at, tree_of
from countfold.names import is_whole

FEW = 3


def play_of(talk, world, saying):
    """Whether a broad saying is true in a world, and a play of this truth."""
    check_broad(talk, saying)
    return _play(tree_of(talk, saying), world)


def _play(tree, world):
    word = tree[0]
    if word == "leaf":
        return is_true_at(tree, world), ("leaf",)
    if word == "not":
        truth, play = _play(tree[1], world)
        return not truth, play
    return _play_of_two(tree, world) if word in ("both", "either") else _play_of_shares(tree, world)


def _told_by_one(tree):
    """The truth that one of two, or one share, is enough for."""
    return tree[0] in ("either", "some")


def _play_of_two(tree, world):
    plays = []
    for place in (0, 1):
        truth, play = _play(tree[1 + place], world)
        if truth == _told_by_one(tree):
            return truth, ("one", place, play)
        plays.append(play)
    return not _told_by_one(tree), ("two", plays[0], plays[1])


def _play_of_shares(tree, world):
    plays = []
    for share in shares_at(tree, world):
        truth, play = _play(tree[1], share)
        if truth == _told_by_one(tree):
            return truth, ("share", share, play)
        plays.append(play)
    return not _told_by_one(tree), ("every", tuple(plays))


def shows_play(talk, world, saying, truth, thing):
    """Whether a thing is a play of a truth of a broad saying in a world."""
    return _shows(tree_of(talk, saying), world, truth, thing)


def _shows(tree, world, truth, thing):
    word = tree[0]
    if word == "not":
        return _shows(tree[1], world, not truth, thing)
    if not isinstance(thing, tuple) or not thing:
        return False
    if word == "leaf":
        return thing == ("leaf",) and is_true_at(tree, world) == truth
    if word in ("both", "either"):
        return _shows_two(tree, world, truth, thing)
    return _shows_shares(tree, world, truth, thing)


def _shows_two(tree, world, truth, thing):
    if len(thing) != 3:
        return False
    word, first, second = thing
    if truth == _told_by_one(tree):
        return word == "one" and is_whole(first, least=0, most=1) and _shows(tree[1 + first], world, truth, second)
    return word == "two" and _shows(tree[1], world, truth, first) and _shows(tree[2], world, truth, second)


def _shows_shares(tree, world, truth, thing):
    found = shares_at(tree, world)
    if truth == _told_by_one(tree):
        if len(thing) != 3 or thing[0] != "share" or not _is_one_of(thing[1], found):
            return False
        return _shows(tree[1], thing[1], truth, thing[2])
    if len(thing) != 2 or thing[0] != "every" or not isinstance(thing[1], tuple) or len(thing[1]) != len(found):
        return False
    return all([_shows(tree[1], share, truth, play) for share, play in zip(found, thing[1])])


def _is_one_of(thing, worlds):
    """Whether a thing is one of these worlds: a truth in it is equal to a number, and is none."""
    if thing not in worlds:
        return False
    return all([is_whole(number) for part in thing for number in part])


def false_at(talk, saying, *, things=FEW):
    """The least world, of so many things at most and no number above that, where a broad saying is false, or None."""
    check_broad(talk, saying)
    tree = tree_of(talk, saying)
    most = min(things, talk.most())
    values = _values(most, len(talk.numbers()))
    for many in range(most + 1):
        for counts in _counts(many, talk.regions()):
            for told in values:
                if not is_true_at(tree, (counts, told)):
                    return counts, told
    return None


def _counts(many, regions):
    """The tuples of a count for each of so many regions of which so many things are, rising."""
    if regions == 1:
        return [(many,)]
    return [(first, *rest) for first in range(many + 1) for rest in _counts(many - first, regions - 1)]


def _values(most, many):
    """The tuples of so many values from 0 to most, rising."""
    found = [()]
    for _ in range(many):
        found = [values + (value,) for values in found for value in range(most + 1)]
    return found
