"""Broad sayings: of some set, of all sets; the shares of a world, by which they are true or false."""

from countfold.cases import is_true_piece, plain_pieces
from countfold.errors import NoSaying
from countfold.names import is_name
from countfold.sayings import DEEPEST, MOST_PARTS, is_headed, sayings_under

# The words that a broad saying may have beside those of others, and how many of them.
_WORDS = ("some", "all")
_MOST_WORDS = 4
_MOST_SETS = 3


def is_broad(talk, thing):
    """Whether a thing is a broad saying of the talk."""
    layer = [(talk, thing)]
    parts = words = 0
    # Layer by layer, so that no more is looked at than a saying may have.
    for _ in range(DEEPEST):
        parts += len(layer)
        if parts > MOST_PARTS or not all([_is_broad_headed(at, part) for at, part in layer]):
            return False
        words += len([part for _, part in layer if part[0] in _WORDS])
        if words > _MOST_WORDS:
            return False
        layer = [pair for at, part in layer for pair in _under(at, part)]
    return not layer


def _is_broad_headed(talk, thing):
    """Whether a thing is a broad saying, whatever stands where others have sayings within."""
    if not isinstance(thing, tuple) or not thing or not isinstance(thing[0], str):
        return False
    if thing[0] not in _WORDS:
        return is_headed(talk, thing)
    if len(thing) != 3 or not is_name(thing[1]) or len(talk.sets()) == _MOST_SETS:
        return False
    return thing[1] not in talk.sets() + talk.numbers()


def _under(talk, saying):
    """The sayings right within a broad one, each with its talk."""
    if saying[0] in _WORDS:
        return [(talk.wider(saying[1]), saying[2])]
    return [(talk, part) for part in sayings_under(saying)]


def words_within(saying):
    """How many some, all stand within one another at most in a broad saying."""
    if saying[0] in _WORDS:
        return 1 + words_within(saying[2])
    return max([0] + [words_within(part) for part in sayings_under(saying)])


def shares(talk, world, name):
    """The shares of a world by a set, rising."""
    wide = talk.wider(name)
    return _shares(world, _halves(talk, name), wide.regions())


def _halves(talk, name):
    """For each region the two of the talk wider by a set that it falls into."""
    return tuple([talk.halves(region, name) for region in range(talk.regions())])


def _shares(world, halves, regions):
    """The worlds of so many regions in whose halves of each region there are together as many things as in it."""
    lots = [[0] * regions]
    for (without, within), count in zip(halves, world[0]):
        lots = [_parted(lot, without, within, count, often) for lot in lots for often in range(count + 1)]
    return sorted([(tuple(lot), world[1]) for lot in lots])


def _parted(lot, without, within, count, often):
    """The counts, with so many of a region's count within the set, the others without."""
    lot = list(lot)
    lot[without], lot[within] = count - often, often
    return lot


def is_true_broad(talk, world, saying):
    """Whether a broad saying is true in a world."""
    check_broad(talk, saying)
    return is_true_at(tree_of(talk, saying), world)


def check_broad(talk, saying):
    """Refuses what is no broad saying."""
    if not is_broad(talk, saying):
        raise NoSaying(saying)


def tree_of(talk, saying):
    """A broad saying with what takes long to tell, told once for all worlds that it is looked at in.

    Of one without some and all ("leaf", tree); of not, both, either the word and trees; of some and all the word, a
    tree, what region falls into which two, how many regions there are then. Leaves end in ("piece", piece).
    """
    return _tree(talk, saying) if words_within(saying) > 0 else ("leaf", _plain_tree(talk, saying))


def _tree(talk, saying):
    word = saying[0]
    if word in _WORDS:
        wide = talk.wider(saying[1])
        return word, tree_of(wide, saying[2]), _halves(talk, saying[1]), wide.regions()
    return (word, *[tree_of(talk, part) for part in sayings_under(saying)])


def _plain_tree(talk, saying):
    under = sayings_under(saying)
    if under:
        return (saying[0], *[_plain_tree(talk, part) for part in under])
    # Not turned, each saying of sums or terms is one piece.
    return "piece", plain_pieces(talk, saying, False)[0]


def shares_at(tree, world):
    """The shares of a world, rising, that a tree of some or all is of."""
    return _shares(world, tree[2], tree[3])


def is_true_at(tree, world):
    """Whether a saying is true in a world, by its tree."""
    word, under = tree[:2]
    if word == "piece":
        return is_true_piece(world, under)
    if word == "leaf":
        return is_true_at(under, world)
    if word == "not":
        return not is_true_at(under, world)
    if word == "both":
        return is_true_at(under, world) and is_true_at(tree[2], world)
    if word == "either":
        return is_true_at(under, world) or is_true_at(tree[2], world)
    # One share in which what is within is true makes some true, one in which it is false makes all false.
    is_some = word == "some"
    for share in shares_at(tree, world):
        if is_true_at(under, share) == is_some:
            return is_some
    return not is_some
