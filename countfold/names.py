"""Whole numbers and names, and the bounds that several files share."""

MOST = 12
MANY = 32

_LETTERS = "abcdefghijklmnopqrstuvwxyz"
_LONGEST = 8


def is_whole(thing, *, least=None, most=None):
    """Whether a thing is a whole number within the bounds that are not None."""
    if not isinstance(thing, int) or isinstance(thing, bool):
        return False
    return (least is None or thing >= least) and (most is None or thing <= most)


def is_name(thing):
    """Whether a thing is a text of one to eight small letters."""
    if not isinstance(thing, str) or not 1 <= len(thing) <= _LONGEST:
        return False
    return all([sign in _LETTERS for sign in thing])


def figures(number):
    """The text of a whole number, however many figures it has."""
    # Python turns no number of more than some thousand figures into a text at once.
    rest = abs(number)
    lots = []
    while rest >= 10 ** 64:
        rest, low = divmod(rest, 10 ** 64)
        lots.append(str(low).zfill(64))
    lots.append(str(rest))
    sign = "-" if number < 0 else ""
    return sign + "".join(lots[::-1])
