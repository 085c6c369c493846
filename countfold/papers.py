"""Papers: steps that show, by adding alone, that no whole values from 0 on fit a system."""

from countfold.fractions import is_clash
from countfold.names import is_whole
from countfold.wholes import are_weights, shows_rest


def shows_no(system, thing, *, width):
    """Whether a thing is a paper of the system."""
    if not isinstance(thing, tuple) or not all([_is_headed(step, width) for step in thing]):
        return False
    if not _are_linked(thing):
        return False
    paths = paths_of(system, thing)
    return all([_closes(path, step, width) for path, step in zip(paths, thing)])


def _is_headed(thing, width):
    """Whether a thing is a step, whatever weights and numbers of steps stand in it."""
    if not isinstance(thing, tuple) or not thing:
        return False
    if thing[0] == "split":
        return len(thing) == 4 and are_weights(thing[1], width + 1)
    return (thing[0] == "clash" and len(thing) == 2) or (thing[0] == "rest" and len(thing) == 3)


def _are_linked(steps):
    """Whether each step but step 0 is named by just one split, once, ahead of it."""
    named = {}
    for number, step in enumerate(steps):
        for other in _named(step):
            if not is_whole(other, least=number + 1, most=len(steps) - 1) or other in named:
                return False
            named[other] = True
    return len(named) == len(steps) - 1


def _named(step):
    """The steps that a step names."""
    return step[2:] if step[0] == "split" else ()


def _closes(path, step, width):
    """Whether a step, if it isn't a split, shows that nothing fits its path."""
    if step[0] == "clash":
        return is_clash(path, step[1], width=width)
    if step[0] == "rest":
        return _is_rest(path, step, width)
    return True


def _is_rest(path, step, width):
    if not shows_rest([row for _, row in path], step, width=width):
        return False
    return all([weight == 0 or kind == "nought" for weight, (kind, _) in zip(step[1], path)])


def paths_of(system, paper):
    """The path of each step, in a list."""
    paths = {0: tuple([(kind, tuple(row)) for kind, row in system])}
    for number, step in enumerate(paper):
        if step[0] == "split":
            _, row, left, right = step
            paths[left] = paths[number] + (("least", row),)
            paths[right] = paths[number] + (("least", other_side(row)),)
    return [paths[number] for number in range(len(paper))]


def other_side(row):
    """The row that is 0 or more just where this one, at whole values, is below 0."""
    return (-1 - row[0], *[-coef for coef in row[1:]])
