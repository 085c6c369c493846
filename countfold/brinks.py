"""Simple sayings, true alike of counts that are equal or both great: told of all counts by a look at few of them."""

from math import comb

from countfold.broad import is_broad, is_true_at, tree_of, words_within
from countfold.errors import NoSaying, TooMany

_MOST_LOT = 9
_MOST_LOOKS = 5000


def is_simple(talk, thing):
    """Whether a thing is a simple saying of the talk."""
    return is_broad(talk, thing) and all([_is_simple_plain(saying) for saying in _plain_sayings(thing)])


def _plain_sayings(saying):
    """The sayings of sums or terms in a broad one."""
    word = saying[0]
    if word in ("not", "both", "either"):
        return [plain for part in saying[1:] for plain in _plain_sayings(part)]
    return _plain_sayings(saying[2]) if word in ("some", "all") else [saying]


def _is_simple_plain(saying):
    """Whether a saying of sums or terms is as it is in simple ones."""
    word, first, second = saying
    if word in ("within", "same"):
        return True
    if word == "parts" or len(first) != 1 or len(second) != 1:
        return False
    return (_is_lot(first[0]) and _is_size(second[0])) or (_is_size(first[0]) and _is_lot(second[0]))


def _is_lot(addend):
    return addend[0] == "lot" and 0 <= addend[1] <= _MOST_LOT


def _is_size(addend):
    return addend[0] == "size" and addend[1] == 1


def brink(saying):
    """The number from which on, in each region, all counts are alike to a simple saying."""
    lots = [_lot_of(plain) for plain in _plain_sayings(saying)]
    return (1 + max(lots)) << words_within(saying)


def _lot_of(saying):
    """The lot that a size is compared with, 0 where there is none."""
    word, first, second = saying
    if word in ("within", "same"):
        return 0
    return first[0][1] if first[0][0] == "lot" else second[0][1]


def are_alike_by(counts, others, brink):
    """Whether counts are alike: in each region equal, or both no less than the brink."""
    return all([count == other or min(count, other) >= brink for count, other in zip(counts, others)])


def answer(counts, others, share, brink):
    """How many of each region of the others lie in, so that those in and those out are alike those of a share."""
    return tuple([_answer_in(count, other, within, brink) for count, other, within in zip(counts, others, share)])


def _answer_in(count, other, within, brink):
    """How many of the other count lie in, where of the count so many do; both are equal, or no less than two brinks."""
    if count == other or within < brink:
        return within
    if count - within < brink:
        return other - (count - within)
    return brink


def cut_counts(counts, brink):
    """The counts, none above the brink."""
    return tuple([min(count, brink) for count in counts])


def true_of(talk, counts, saying):
    """Whether a simple saying is true of counts, however great."""
    _check(talk, saying)
    cut = cut_counts(counts, brink(saying))
    many = 1 << words_within(saying)
    _check_looks([_tuples_many(count, many) for count in cut])
    return is_true_at(tree_of(talk, saying), _world(talk, cut))


def _check(talk, saying):
    if not is_simple(talk, saying):
        raise NoSaying(saying)


def _check_looks(lots):
    """Refuses a look at more than may be, told region by region."""
    looks = 1
    for many in lots:
        looks *= many
    if looks > _MOST_LOOKS:
        raise TooMany(looks)


def _tuples_many(count, many):
    """How many tuples of so many whole numbers from 0 on add up to a count."""
    return comb(count + many - 1, many - 1)


def _world(talk, counts):
    """The counts as a world; a simple saying has no numbers in it."""
    return counts, (0,) * len(talk.numbers())


def always(talk, saying):
    """That a simple saying is true of all counts whatever, with its brink; or counts of which it is false."""
    _check(talk, saying)
    most, many = brink(saying), 1 << words_within(saying)
    # What adds up to most or less adds up to most with one number more.
    _check_looks([_tuples_many(most, many + 1)] * talk.regions())
    tree = tree_of(talk, saying)
    for counts in _counts_to(most, talk.regions()):
        if not is_true_at(tree, _world(talk, counts)):
            return "no", counts
    return "yes", most


def _counts_to(most, regions):
    """The tuples of a count from 0 to most for each of so many regions."""
    found = [()]
    for _ in range(regions):
        found = [counts + (count,) for counts in found for count in range(most + 1)]
    return found
