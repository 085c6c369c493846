"""Sums: addends of the talk, and the row that says what they are worth."""

from countfold.names import is_whole
from countfold.rows import row_worth
from countfold.terms import is_term, regions_of, term_for

_MOST_ADDENDS = 12


def is_sum(talk, thing):
    """Whether a thing is a sum of the talk."""
    if not isinstance(thing, tuple) or len(thing) > _MOST_ADDENDS:
        return False
    return all([_is_addend(talk, part) for part in thing])


def _is_addend(talk, thing):
    if not isinstance(thing, tuple) or not 2 <= len(thing) <= 3 or not is_whole(thing[1]):
        return False
    word = thing[0]
    if len(thing) == 2:
        return word == "lot"
    if word == "num":
        return thing[2] in talk.numbers()
    return word == "size" and is_term(talk, thing[2])


def row_of(talk, addends):
    """The row over the talk's unknowns that is worth what the sum is."""
    row = [0] * (1 + len(talk))
    for addend in addends:
        for place in _places(talk, addend):
            row[place] += addend[1]
    return tuple(row)


def _places(talk, addend):
    """The places of the row to which an addend adds."""
    word = addend[0]
    if word == "lot":
        return [0]
    if word == "num":
        return [1 + talk.place(addend[2])]
    return [1 + region for region in regions_of(talk, addend[2])]


def sum_for(talk, row):
    """A sum with this row over the talk's unknowns."""
    addends = [("lot", row[0])]
    # Regions of one coef go together, so that the sum is short.
    coefs = list(row[1:1 + talk.regions()])
    for coef in sorted(set(coefs)):
        alike = [region for region in range(talk.regions()) if coefs[region] == coef]
        addends.append(("size", coef, term_for(talk, alike)))
    for name in talk.numbers():
        addends.append(("num", row[1 + talk.place(name)], name))
    return tuple([addend for addend in addends if addend[1] != 0])


def worth_of(talk, world, addends):
    """What a sum is worth in a world."""
    counts, values = world
    return row_worth(row_of(talk, addends), [*counts, *values])
