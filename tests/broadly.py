"""What broad sayings say, gone through set by set; and makers of them."""

import itertools

from tests import plainly

SETS = ("a", "b", "c", "d", "e")


def subsets(things):
    return [set(group) for many in range(len(things) + 1) for group in itertools.combinations(sorted(things), many)]


def worth(found, values, addends):
    total = 0
    for word, k, *more in addends:
        total += k * (1 if word == "lot" else values[more[0]] if word == "num" else len(plainly.things_in(more[0], found)))
    return total


def truth_of_sets(found, values, saying):
    """Whether a broad saying is true of these sets, by their names, and under None all things."""
    word, *parts = saying
    if word in ("some", "all"):
        truths = [truth_of_sets({**found, parts[0]: more}, values, parts[1]) for more in subsets(found[None])]
        return any(truths) if word == "some" else all(truths)
    if word in ("not", "both", "either"):
        truths = [truth_of_sets(found, values, part) for part in parts]
        return {"not": not truths[0], "both": all(truths), "either": any(truths)}[word]
    if word in ("within", "same"):
        left, right = [plainly.things_in(part, found) for part in parts]
        return left <= right if word == "within" else left == right
    if word == "parts":
        return worth(found, values, parts[1]) % parts[0] == 0
    left, right = [worth(found, values, part) for part in parts]
    return left <= right if word == "atmost" else left == right


def truth(talk, world, saying):
    return truth_of_sets(plainly.members(talk, world), dict(zip(talk.numbers(), world[1])), saying)


def words_in(saying):
    """How many some, all are in a saying."""
    if saying[0] in ("some", "all"):
        return 1 + words_in(saying[2])
    return sum(words_in(part) for part in saying[1:]) if saying[0] in ("not", "both", "either") else 0


def broad(maker, talk, deep, leaf):
    """A saying with some and all, of leaves that leaf makes of a talk."""
    if deep == 1 or maker.whole(0, 9) < 1:
        return leaf(talk)
    word = maker.among("not", "both", "either", "some", "all", "some", "all")
    names = [name for name in SETS if name not in talk.sets()]
    if word in ("some", "all") and len(talk.sets()) < 3:
        name = maker.among(*names)
        return word, name, broad(maker, talk.wider(name), deep - 1, leaf)
    if word in ("both", "either"):
        return word, broad(maker, talk, deep - 1, leaf), broad(maker, talk, deep - 1, leaf)
    return "not", broad(maker, talk, deep - 1, leaf)


def some_broad(maker, talk, deep=4, leaf=None):
    """A broad saying with at least one of some, all and at most four."""
    saying = None
    while saying is None or not 1 <= words_in(saying) <= 4:
        saying = broad(maker, talk, deep, leaf or (lambda wide: maker.saying(wide, 1)))
    return saying


def simple(maker, most=3):
    """Makes simple leaves of a talk."""
    def leaf(talk):
        word = maker.among("atmost", "equal", "atmost", "equal", "within", "same")
        if word in ("within", "same"):
            return word, maker.term(talk, 2), maker.term(talk, 2)
        sums = [(("lot", maker.whole(0, most)),), (("size", 1, maker.term(talk, 2)),)]
        return (word, *sums[::maker.among(1, -1)])
    return leaf
