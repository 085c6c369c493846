"""Whether sayings are true."""

from countfold.sayings import sayings_in
from countfold.sums import worth_of
from countfold.worlds import world_of


def is_true(talk, world, saying):
    """Whether a saying is true in a world."""
    parts = sayings_in(saying)
    truths = []
    # From behind, so that the truths of those within a saying lie on top of the pile, the first one's topmost.
    for part in parts[::-1]:
        word = part[0]
        if word == "not":
            truths.append(not truths.pop())
        elif word == "both":
            first, second = truths.pop(), truths.pop()
            truths.append(first and second)
        elif word == "either":
            first, second = truths.pop(), truths.pop()
            truths.append(first or second)
        else:
            truths.append(_is_plain_true(talk, world, part))
    return truths[0]


def _is_plain_true(talk, world, saying):
    """Whether a saying of sums or terms is true."""
    word, first, second = saying
    if word == "atmost":
        return worth_of(talk, world, first) <= worth_of(talk, world, second)
    if word == "equal":
        return worth_of(talk, world, first) == worth_of(talk, world, second)
    if word == "parts":
        return worth_of(talk, world, second) % first == 0
    if word == "within":
        return _is_empty(talk, world, ("but", first, second))
    return _is_empty(talk, world, ("or", ("but", first, second), ("but", second, first)))


def _is_empty(talk, world, term):
    return worth_of(talk, world, (("size", 1, term),)) == 0


def is_true_of(talk, members, saying, *, many, values=()):
    """Whether a saying is true of things 0 to below many, these of them in the sets."""
    return is_true(talk, world_of(talk, members, many, values), saying)
