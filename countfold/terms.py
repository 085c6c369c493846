"""Terms: what is made of sets, and the regions that it holds."""

from countfold.errors import NoRegion
from countfold.names import is_whole

_DEEPEST = 12
_MOST_PARTS = 100

# How many terms stand behind each word.
_TAKES = {"none": 0, "all": 0, "not": 1, "and": 2, "or": 2, "but": 2}


def is_term(talk, thing):
    """Whether a thing is a term of the talk."""
    layer = [thing]
    parts = 0
    # Layer by layer, so that no more is looked at than a term may have.
    for _ in range(_DEEPEST):
        parts += len(layer)
        if parts > _MOST_PARTS or not all([_is_headed(talk, part) for part in layer]):
            return False
        layer = [under for part in layer if isinstance(part, tuple) for under in part[1:]]
    return not layer


def _is_headed(talk, thing):
    """Whether a thing is a set's name, or a word with as many things behind it as it takes."""
    if not isinstance(thing, tuple):
        return thing in talk.sets()
    if not thing or not isinstance(thing[0], str):
        return False
    return _TAKES.get(thing[0]) == len(thing) - 1


def regions_of(talk, term):
    """The regions that a term holds, rising."""
    return [region for region in range(talk.regions()) if _holds(talk, term, region)]


def _holds(talk, term, region):
    if isinstance(term, str):
        return talk.lies(region, term)
    word = term[0]
    if word == "none":
        return False
    if word == "all":
        return True
    first = _holds(talk, term[1], region)
    if word == "not":
        return not first
    second = _holds(talk, term[2], region)
    if word == "and":
        return first and second
    if word == "or":
        return first or second
    return first and not second


def term_for(talk, regions):
    """A term that holds just these regions."""
    for region in regions:
        if not is_whole(region, least=0, most=talk.regions() - 1):
            raise NoRegion(region)
    held = [number in regions for number in range(talk.regions())]
    return _term_of(talk.sets(), held)


def _term_of(sets, held):
    """A term of these sets that holds the regions where held, a list of truths, is true."""
    if not any(held):
        return ("none",)
    if all(held):
        return ("all",)
    # Of two halves the second lies in the last set, the first outside it.
    half = len(held) // 2
    outside = _term_of(sets[:-1], held[:half])
    inside = _term_of(sets[:-1], held[half:])
    if outside == inside:
        return outside
    return _either_side(sets[-1], outside, inside)


def _either_side(name, outside, inside):
    """The term that is one term outside a set, another one inside it."""
    if inside == ("none",):
        return ("not", name) if outside == ("all",) else ("but", outside, name)
    if outside == ("none",):
        return name if inside == ("all",) else ("and", inside, name)
    if inside == ("all",):
        return ("or", outside, name)
    if outside == ("all",):
        return ("or", inside, ("not", name))
    return ("or", ("but", outside, name), ("and", inside, name))


def are_alike(talk, term, other):
    """Whether two terms hold the same regions."""
    return regions_of(talk, term) == regions_of(talk, other)
