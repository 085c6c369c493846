"""What terms, sums and sayings say, gone through thing by thing; and makers of deep and broad ones."""

import itertools


def all_worlds(talk):
    """Each world of a small talk, rising."""
    numbers = range(talk.most() + 1)
    return [(counts, values)
            for counts in itertools.product(numbers, repeat=talk.regions()) if sum(counts) <= talk.most()
            for values in itertools.product(numbers, repeat=len(talk.numbers()))]


def members(talk, world):
    """For each set the set of its things; under None all things."""
    regions = [region for region, count in enumerate(world[0]) for _ in range(count)]
    found = {name: {thing for thing, region in enumerate(regions) if region // 2 ** place % 2}
             for place, name in enumerate(talk.sets())}
    found[None] = set(range(len(regions)))
    return found


def things_in(term, found):
    """The set of things of a term."""
    if isinstance(term, str):
        return found[term]
    under = [things_in(part, found) for part in term[1:]]
    return {"none": lambda: set(), "all": lambda: found[None], "not": lambda: found[None] - under[0],
            "and": lambda: under[0] & under[1], "or": lambda: under[0] | under[1],
            "but": lambda: under[0] - under[1]}[term[0]]()


def worth(talk, world, addends):
    found = members(talk, world)
    values = dict(zip(talk.numbers(), world[1]))
    total = 0
    for word, k, *more in addends:
        total += k * {"lot": lambda: 1, "num": lambda: values[more[0]],
                      "size": lambda: len(things_in(more[0], found))}[word]()
    return total


def truth(talk, world, saying):
    word, *parts = saying
    found = members(talk, world)
    if word in ("not", "both", "either"):
        truths = [truth(talk, world, part) for part in parts]
        return {"not": not truths[0], "both": all(truths), "either": any(truths)}[word]
    if word in ("within", "same"):
        left, right = [things_in(part, found) for part in parts]
        return left <= right if word == "within" else left == right
    if word == "parts":
        return worth(talk, world, parts[1]) % parts[0] == 0
    left, right = [worth(talk, world, part) for part in parts]
    return left <= right if word == "atmost" else left == right


def deep_term(deep, leaf="a"):
    """A term so deep."""
    term = leaf
    for _ in range(deep - 1):
        term = ("not", term)
    return term


def broad_term(parts):
    """A term of so many names, the joins between them and a not where they are even in number."""
    layer = ["a"] * ((parts + 1) // 2)
    while len(layer) > 1:
        pairs = [("and", *layer[at:at + 2]) for at in range(0, len(layer) - 1, 2)]
        layer = pairs + layer[len(pairs) * 2:]
    return layer[0] if parts % 2 else ("not", layer[0])


def deep_saying(deep, leaf=("within", "a", "b")):
    """A saying so deep."""
    saying = leaf
    for _ in range(deep - 1):
        saying = ("not", saying)
    return saying


def broad_saying(parts, leaf=("within", "a", "b")):
    """A saying of so many words: leaves, the joins between them, and a not where they are even in number."""
    layer = [leaf] * ((parts + 1) // 2)
    while len(layer) > 1:
        pairs = [("either", *layer[at:at + 2]) for at in range(0, len(layer) - 1, 2)]
        layer = pairs + layer[len(pairs) * 2:]
    return layer[0] if parts % 2 else ("not", layer[0])
