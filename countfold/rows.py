"""Rows: a constant, and a coef for each unknown."""

from math import gcd


def row_worth(row, values):
    """What a row is worth at values, one for each coef."""
    return row[0] + sum([coef * value for coef, value in zip(row[1:], values)])


def added(rows, weights, *, width):
    """The row of all rows, each times its weight."""
    total = [0] * (width + 1)
    for row, weight in zip(rows, weights):
        # Most weights of a long paper are 0.
        if weight != 0:
            total = [have + weight * more for have, more in zip(total, row)]
    return tuple(total)


def divisor_of(row):
    """The greatest whole number that divides each coef; 0 where all of them are 0."""
    divisor = 0
    for coef in row[1:]:
        divisor = gcd(divisor, coef)
    return divisor
