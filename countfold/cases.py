"""Cases: the pieces of rows, all of one case of which are true just where the sayings are."""

from countfold.errors import TooMany
from countfold.names import MANY
from countfold.rows import added, row_worth
from countfold.sums import row_of


def cases_many(sayings, *, turned=False):
    """How many cases all sayings as both have; turned: as many as not, of this, has."""
    counts = [_many(saying, turned) for saying in sayings]
    if turned:
        return sum(counts)
    many = 1
    for count in counts:
        many *= count
    return many


def _many(saying, turned):
    """How many cases a saying has, or not, of it."""
    word = saying[0]
    if word == "not":
        return _many(saying[1], not turned)
    if word in ("both", "either"):
        first, second = _many(saying[1], turned), _many(saying[2], turned)
        return first * second if _is_joined(word, turned) else first + second
    return 2 if word == "equal" and turned else 1


def _is_joined(word, turned):
    """Whether each case of the first goes with each of the second; else they are told one behind the other."""
    return (word == "both") != turned


def cases_of(talk, sayings, *, most=MANY):
    """The cases of all sayings as both."""
    many = cases_many(sayings)
    if many > most:
        raise TooMany(many)
    cases = [()]
    for saying in sayings:
        cases = _each_with_each(cases, _cases(talk, saying, False))
    return tuple(cases)


def _each_with_each(firsts, seconds):
    return [first + second for first in firsts for second in seconds]


def _cases(talk, saying, turned):
    """The cases of a saying, or of not, of it, in a list."""
    word = saying[0]
    if word == "not":
        return _cases(talk, saying[1], not turned)
    if word in ("both", "either"):
        firsts, seconds = _cases(talk, saying[1], turned), _cases(talk, saying[2], turned)
        return _each_with_each(firsts, seconds) if _is_joined(word, turned) else firsts + seconds
    return [(piece,) for piece in plain_pieces(talk, saying, turned)]


def plain_pieces(talk, saying, turned):
    """The pieces of a saying of sums or terms, or of not, of it, each of a case of its own."""
    word, first, second = saying
    if word == "parts":
        return [("unparts" if turned else "parts", first, row_of(talk, second))]
    if word in ("within", "same"):
        row = row_of(talk, _amiss(word, first, second))
        return [("least", _lowered(row))] if turned else [("nought", row)]
    first_row, second_row = row_of(talk, first), row_of(talk, second)
    over, under = _less(first_row, second_row), _less(second_row, first_row)
    if word == "atmost":
        return [("least", _lowered(over))] if turned else [("least", under)]
    return [("least", _lowered(under)), ("least", _lowered(over))] if turned else [("nought", over)]


def _amiss(word, first, second):
    """The sum of how many things keep two terms from being within or the same."""
    if word == "within":
        return (("size", 1, ("but", first, second)),)
    return (("size", 1, ("but", first, second)), ("size", 1, ("but", second, first)))


def _less(row, other):
    return added([row, other], [1, -1], width=len(row) - 1)


def _lowered(row):
    """The row that is worth one less."""
    return (row[0] - 1, *row[1:])


def holds_in(talk, world, piece):
    """Whether a piece is true in a world of the talk."""
    return is_true_piece(world, piece)


def is_true_piece(world, piece):
    """Whether a piece is true in a world."""
    counts, values = world
    worth = row_worth(piece[-1], [*counts, *values])
    if piece[0] == "least":
        return worth >= 0
    if piece[0] == "nought":
        return worth == 0
    return (worth % piece[1] == 0) == (piece[0] == "parts")


def case_at(talk, sayings, world, *, most=MANY):
    """The number of the first case whose pieces are all true, None where there is none."""
    for number, case in enumerate(cases_of(talk, sayings, most=most)):
        if all([holds_in(talk, world, piece) for piece in case]):
            return number
    return None
