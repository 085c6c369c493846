"""What bases, rests, points, clashes and papers show, gone over by adding alone."""

import itertools


def worth(row, values):
    assert len(row) == len(values) + 1
    return row[0] + product(row[1:], values)


def product(numbers, others):
    assert len(numbers) == len(others)
    return sum(number * other for number, other in zip(numbers, others))


def sum_of(rows, weights, width):
    assert len(rows) == len(weights)
    total = [0] * (width + 1)
    for row, weight in zip(rows, weights):
        total = [have + weight * more for have, more in zip(total, row)]
    return total


def are_wholes(things):
    return type(things) is tuple and all(type(thing) is int for thing in things)


def is_base(rows, paper, width):
    word, point, moves, reads = paper
    tuples = [point, *moves, *reads]
    if word != "base" or not all(are_wholes(numbers) and len(numbers) == width for numbers in tuples):
        return False
    if type(moves) is not tuple or type(reads) is not tuple or len(moves) != len(reads):
        return False
    if any(worth(row, point) != 0 or product(row[1:], move) != 0 for row in rows for move in moves):
        return False
    if any(worth(row, point) != 0 for row in rows):
        return False
    return all(product(move, read) == (at == other) for at, move in enumerate(moves) for other, read in enumerate(reads))


def is_rest(rows, paper, width):
    word, weights, d = paper
    if word != "rest" or not are_wholes(weights) or type(d) is not int or d < 2:
        return False
    constant, *coefs = sum_of(rows, weights, width)
    return constant % d != 0 and all(coef % d == 0 for coef in coefs)


def is_clash(system, weights, width):
    if not are_wholes(weights) or len(weights) != len(system):
        return False
    if any(kind == "least" and weight < 0 for (kind, _), weight in zip(system, weights)):
        return False
    constant, *coefs = sum_of([row for _, row in system], weights, width)
    return constant < 0 and all(coef <= 0 for coef in coefs)


def fit_over(system, numerators, d):
    if any(number < 0 for number in numerators):
        return False
    worths = [(kind, d * row[0] + product(row[1:], numerators)) for kind, row in system]
    return all(found == 0 or (kind == "least" and found > 0) for kind, found in worths)


def fit(system, values):
    return fit_over(system, values, 1)


def some_fit(system, width, most):
    """Whether whole values from 0 to most fit."""
    return any(fit(system, values) for values in itertools.product(range(most + 1), repeat=width))


def is_paper(system, paper, width):
    """Whether a tuple of steps that are linked as they have to be shows that nothing fits."""
    waiting, seen = [(0, system)], []
    while waiting:
        number, path = waiting.pop()
        seen.append(number)
        step = paper[number]
        if step[0] == "split":
            _, row, left, right = step
            if not are_wholes(row) or len(row) != width + 1 or not number < min(left, right):
                return False
            other = (-1 - row[0], *[-coef for coef in row[1:]])
            waiting += [(left, path + (("least", row),)), (right, path + (("least", other),))]
        elif step[0] == "rest":
            if not is_rest([row for _, row in path], step, width):
                return False
            if any(weight != 0 and kind == "least" for weight, (kind, _) in zip(step[1], path)):
                return False
        elif step[0] != "clash" or len(step) != 2 or not is_clash(path, step[1], width):
            return False
    return sorted(seen) == list(range(len(paper)))
