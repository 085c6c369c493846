"""Ones and others: a world in which all of both are true, or papers parted by them, and a saying between."""

from countfold.cases import cases_many, cases_of
from countfold.errors import NoPapers, TooMany
from countfold.fits import parted_fit
from countfold.names import MANY
from countfold.pairs import is_of_ones, is_parted, pair_system
from countfold.papers import paths_of
from countfold.parts import joined, part_of, shared
from countfold.prover import check_sayings, world_of_values
from countfold.sums import sum_for
from countfold.systems import system_of, width_of
from countfold.trims import trimmed

# True in each world, and in none.
_TRUE = ("atmost", (), ())
_FALSE = ("atmost", (("lot", 1),), ())


def between(talk, ones, others):
    """A world in which ones and others are all true, or parted papers."""
    _check(talk, ones, others)
    one, other = part_of(talk, ones), part_of(talk, others)
    papers = []
    for case in cases_of(one, ones):
        found = []
        for other_case in cases_of(other, others):
            width, many = width_of(one, case), width_of(other, other_case)
            system = pair_system(one, case, other, other_case)
            word, answer = parted_fit(system, width=width + many, ones=width)
            if word == "fit":
                return "yes", _world(talk, one, answer[:width], other, answer[width:])
            # Idle splits would make the saying between longer.
            found.append(trimmed(system, answer, width=width + many))
        papers.append(tuple(found))
    return "no", tuple(papers)


def _check(talk, ones, others):
    check_sayings(talk, (*ones, *others))
    many = cases_many(ones) * cases_many(others)
    if many > MANY:
        raise TooMany(many)


def _world(talk, one, values, other, other_values):
    """The world of values of the ones' unknowns and the others'."""
    return joined(talk, one, world_of_values(one, values), other, world_of_values(other, other_values))


def shows_apart(talk, ones, others, thing):
    """Whether a thing is parted papers."""
    _check(talk, ones, others)
    return _are_parted(talk, ones, others, thing)


def _are_parted(talk, ones, others, thing):
    one, other = part_of(talk, ones), part_of(talk, others)
    cases, other_cases = cases_of(one, ones), cases_of(other, others)
    if not _is_row(thing, len(cases)) or not all([_is_row(papers, len(other_cases)) for papers in thing]):
        return False
    return all([is_parted(one, case, other, other_case, paper)
                for case, papers in zip(cases, thing) for other_case, paper in zip(other_cases, papers)])


def _is_row(thing, many):
    return isinstance(thing, tuple) and len(thing) == many


def saying_between(talk, ones, others, papers):
    """A saying in shared names that is true where ones are and false where others are, made of parted papers."""
    _check(talk, ones, others)
    if not _are_parted(talk, ones, others, papers):
        raise NoPapers("these aren't parted papers of the ones and the others")
    one, other = part_of(talk, ones), part_of(talk, others)
    found = _FALSE
    for case, row in zip(cases_of(one, ones), papers):
        all_of_case = _TRUE
        for other_case, paper in zip(cases_of(other, others), row):
            all_of_case = _both(all_of_case, _of_paper(one, case, other, other_case, paper))
        found = _either(found, all_of_case)
    return found


def _either(first, second):
    if _TRUE in (first, second):
        return _TRUE
    if first == _FALSE:
        return second
    return first if second == _FALSE else ("either", first, second)


def _both(first, second):
    if _FALSE in (first, second):
        return _FALSE
    if first == _TRUE:
        return second
    return first if second == _TRUE else ("both", first, second)


def _of_paper(one, case, other, other_case, paper):
    """The saying between a case of ones and one of others, of a parted paper."""
    both = shared(one, other)
    width, many = width_of(one, case), len(system_of(one, case))
    system = pair_system(one, case, other, other_case)
    paths = paths_of(system, paper)
    sayings = {}
    # From behind, as the steps that a split names are behind it: a paper can be deeper than calls may be.
    for number in reversed(range(len(paper))):
        step = paper[number]
        if step[0] == "split":
            left, right = sayings[step[2]], sayings[step[3]]
            sayings[number] = _either(left, right) if is_of_ones(step[1], width) else _both(left, right)
        else:
            constant = _constant_of_ones(paths[number], step[1], width, many, len(system))
            links = step[1][len(system) - len(both):len(system)]
            sayings[number] = _of_row(both, step, (constant, *[-weight for weight in links]))
    return sayings[0]


def _constant_of_ones(path, weights, width, many, start):
    """The constant that the ones' rows add up to: the first so many ones, and of the splits, from start on, theirs."""
    total = 0
    for place, (_, row) in enumerate(path):
        if place < many or (place >= start and is_of_ones(row, width)):
            total += weights[place] * row[0]
    return total


def _of_row(both, step, row):
    """What the ones say of a row over the shared part at a step that ends its path."""
    if not any(row[1:]):
        is_so = row[0] >= 0 if step[0] == "clash" else row[0] % step[2] == 0
        return _TRUE if is_so else _FALSE
    total = sum_for(both, row)
    return ("atmost", (), total) if step[0] == "clash" else ("parts", step[2], total)
