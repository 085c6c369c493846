"""Equalities in whole numbers: all whole values that make rows worth 0, or why there are none."""

from math import gcd

from countfold.errors import NotBase
from countfold.names import is_whole
from countfold.rows import added, divisor_of, row_worth


def settled(rows, *, width):
    """A base of all whole values that make the rows worth 0, or a rest, so that there are none."""
    point = (0,) * width
    moves = units(width)
    reads = moves
    # Of each row that leaves one move less: its number, that move, and by how much it changes the row's worth.
    held = []
    for number, row in enumerate(rows):
        worth = row_worth(row, point)
        steps, moves, reads = _gathered(row, moves, reads)
        step = sum(steps)
        if worth != 0 and (step == 0 or worth % step != 0):
            return _rest(rows, number, held, abs(step))
        if step != 0:
            place = steps.index(step)
            held.append((number, moves[place], step))
            point = less_often(point, moves[place], worth // step)
            moves, reads = _without(moves, place), _without(reads, place)
    return "base", point, moves, reads


def units(width):
    """For each unknown the coefs of its row alone."""
    return tuple([tuple([int(at == place) for at in range(width)]) for place in range(width)])


def less_often(numbers, others, often):
    """Numbers, less others so often."""
    return tuple([number - often * other for number, other in zip(numbers, others)])


def product_of(numbers, others):
    """Each of the numbers times its other one, added."""
    return sum([number * other for number, other in zip(numbers, others)])


def nearest(number, divisor):
    """The whole number nearest to number divided by divisor."""
    return (2 * number + divisor) // (2 * divisor)


def _without(things, place):
    return things[:place] + things[place + 1:]


def _gathered(row, moves, reads):
    """By how much each move changes the row's worth, the moves, their reads: moves that lead as far as these,
    one of which at most changes it.
    """
    steps = [product_of(row[1:], move) for move in moves]
    while len([step for step in steps if step != 0]) > 1:
        _, least = sorted([(abs(step), place) for place, step in enumerate(steps) if step != 0])[0]
        oftens = [nearest(step, steps[least]) for step in steps]
        oftens[least] = 0
        moves, reads = _exchanged(moves, reads, least, oftens)
        steps = [step - often * steps[least] for step, often in zip(steps, oftens)]
    return steps, moves, reads


def _exchanged(moves, reads, least, oftens):
    """The moves, less the one at the place least so often each, and their reads."""
    read = reads[least]
    for often, other in zip(oftens, reads):
        read = less_often(read, other, -often)
    moves = tuple([less_often(move, moves[least], often) for move, often in zip(moves, oftens)])
    return moves, reads[:least] + (read,) + reads[least + 1:]


def _rest(rows, number, held, step):
    """The rest of rows up to this number: those held leave no value to the moves, by which it changes in steps."""
    weights = [0] * len(rows)
    weights[number] = scale = 1
    row = tuple(rows[number])
    # The moves of the rows held are taken out of the row, the last one first, as each changes none of those ahead.
    for other, move, its_step in held[::-1]:
        change = product_of(row[1:], move)
        times = abs(its_step) // gcd(change, its_step)
        often = change * times // its_step
        row = less_often([part * times for part in row], rows[other], often)
        weights = [weight * times for weight in weights]
        weights[other] -= often
        scale *= times
    if step == 0:
        # No coef is left, and each number divides 0.
        return "rest", tuple(weights), _no_divisor(row[0])
    divisor = scale * step
    shared = gcd(divisor, _shared(weights))
    return "rest", tuple([weight // shared for weight in weights]), divisor // shared


def _shared(weights):
    """The greatest number that divides all of them."""
    return divisor_of((0, *weights))


def _no_divisor(number):
    """The least whole number from 2 on that doesn't divide a number that isn't 0."""
    divisor = 2
    while number % divisor == 0:
        divisor += 1
    return divisor


def shows_rest(rows, thing, *, width):
    """Whether a thing is a rest of the rows."""
    if not isinstance(thing, tuple) or len(thing) != 3 or thing[0] != "rest":
        return False
    _, weights, divisor = thing
    if not are_weights(weights, len(rows)) or not is_whole(divisor, least=2):
        return False
    return leaves_rest(added(rows, weights, width=width), divisor)


def are_weights(thing, many):
    """Whether a thing is a tuple of so many whole numbers."""
    return isinstance(thing, tuple) and len(thing) == many and all([is_whole(part) for part in thing])


def leaves_rest(row, divisor):
    """Whether a number divides each coef of a row, but not the constant."""
    return divisor_of(row) % divisor == 0 and row[0] % divisor != 0


def spread(paper, times):
    """The values that the point and the moves, each so many times, lead to."""
    _check_base(paper)
    _, point, moves, _ = paper
    for move, often in zip(moves, times):
        point = less_often(point, move, -often)
    return tuple(point)


def times_of(paper, values):
    """How many times each move is taken to lead from the point to the values."""
    _check_base(paper)
    _, point, _, reads = paper
    way = less_often(values, point, 1)
    return [product_of(read, way) for read in reads]


def _check_base(paper):
    if paper[0] != "base":
        raise NotBase(paper)
