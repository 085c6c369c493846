"""Reads: coefs by whose whole values it is told where the unknowns are whole; the ones with fewest come first."""

from countfold.lattices import shortened
from countfold.rows import added
from countfold.wholes import product_of, settled, units

# How finely the vectors of moves are measured.
_FINE = 1000


def reads_of(system, table, *, width):
    """Rows' coefs, all whole just where the unknowns are, where the system fits; it does, and the table is of it.

    The table's point is another one behind.
    """
    measures, held = measured(system, table, width=width)
    paper = settled(held, width=width)
    if paper[0] == "rest":
        return (broken_read(held, paper, width=width),)
    return short_ways(paper, measures)[1]


def measured(system, table, *, width):
    """The rows that can be above 0 where the system fits, each with its greatest worth; and those worth 0 there."""
    measures = []
    held = [row for kind, row in system if kind == "nought"]
    for row in [(0, *unit) for unit in units(width)] + [row for kind, row in system if kind == "least"]:
        span = table.greatest(row)
        if span is not None and span[0] > 0:
            measures.append((row, *span))
        elif span is not None:
            # What is never above 0 is as good as a nought row.
            held.append(row)
    return measures, held


def broken_read(rows, rest, *, width):
    """What is worth the same, no whole number, wherever the rows are worth 0."""
    _, weights, divisor = rest
    return tuple([coef // divisor for coef in added(rows, weights, width=width)[1:]])


def short_ways(base, measures):
    """Moves and reads, as good as a base's, from few whole values to many, as the rows' spans measure them."""
    _, _, moves, reads = base
    return shortened([_vector(move, measures) for move in moves], moves, reads)


def _vector(move, measures):
    """How much of each row's span a move goes along; behind it the move itself, that moves alone are alike."""
    most = max([1] + [worth // divisor for _, worth, divisor in measures])
    fine = _FINE * (most + 1)
    shares = [fine * product_of(row[1:], move) * divisor // worth for row, worth, divisor in measures]
    return (*shares, *move)
