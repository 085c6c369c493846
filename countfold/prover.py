"""What can be: worlds in which all sayings are true, or papers that there are none; and what follows."""

from countfold.cases import cases_of
from countfold.errors import NoSaying
from countfold.fits import whole_fit
from countfold.papers import shows_no
from countfold.sayings import is_saying
from countfold.systems import system_of, width_of


def asked(talk, sayings):
    """A world in which all sayings are true, or papers of them."""
    check_sayings(talk, sayings)
    return _found(talk, sayings)


def check_sayings(talk, sayings):
    """Refuses the first that is no saying."""
    for saying in sayings:
        if not is_saying(talk, saying):
            raise NoSaying(saying)


def _found(talk, sayings):
    papers = []
    for case in cases_of(talk, sayings):
        word, found = whole_fit(system_of(talk, case), width=width_of(talk, case))
        if word == "fit":
            return "yes", world_of_values(talk, found)
        papers.append(found)
    return "no", tuple(papers)


def world_of_values(talk, values):
    """The world of which these are the values of the unknowns, ahead of those of unknowns that are added."""
    return tuple(values[:talk.regions()]), tuple(values[talk.regions():len(talk)])


def shows_none(talk, sayings, thing):
    """Whether a thing is papers of the sayings."""
    check_sayings(talk, sayings)
    return are_papers(talk, sayings, thing)


def are_papers(talk, sayings, thing):
    """Whether a thing is papers of sayings, one of which may be of a saying and not."""
    cases = cases_of(talk, sayings)
    if not isinstance(thing, tuple) or len(thing) != len(cases):
        return False
    return all([shows_no(system_of(talk, case), paper, width=width_of(talk, case))
                for case, paper in zip(cases, thing)])


def follows(talk, sayings, *, saying):
    """Papers of the sayings and not, of one more; or a world in which they are true and it isn't."""
    check_sayings(talk, (*sayings, saying))
    word, found = _found(talk, _with_not(sayings, saying))
    return ("no" if word == "yes" else "yes"), found


def _with_not(sayings, saying):
    return (*sayings, ("not", saying))


def shows_follows(talk, sayings, thing, *, saying):
    """Whether a thing is papers of the sayings and not, of one more."""
    check_sayings(talk, (*sayings, saying))
    return are_papers(talk, _with_not(sayings, saying), thing)
