"""The least worth of a row where a system fits in whole numbers."""

from countfold.fits import whole_fit
from countfold.rows import row_worth
from countfold.tables import Table


def least_fit(system, *, width, goal, below):
    """The least worth of the goal, a row, at whole values that fit, and such values.

    None where there are none of a worth below this one; None is above all worths.
    """
    values = _values(system if below is None else _bounded(system, goal, below - 1), width)
    if values is None:
        return None
    worth = row_worth(goal, values)
    low, step, is_high = _least_in_fractions(system, width, goal), 0, False
    # The least worth is low or more, and no more than worth.
    while low < worth:
        # Mostly it is near low: so it is looked for in ever longer steps from there on, then in halves.
        # Where worths lie far apart, worth soon is it: so each other time any less one is looked for.
        most = worth - 1 if is_high else min(low + step, (low + worth - 1) // 2)
        better = _values(_bounded(system, goal, most), width)
        if better is None:
            low, step, is_high = most + 1, 16 * step + 1, not is_high
        else:
            values, worth, is_high = better, row_worth(goal, better), False
    return worth, values


def _values(system, width):
    """Whole values that fit, None where there are none."""
    word, found = whole_fit(system, width=width)
    return found if word == "fit" else None


def _bounded(system, goal, most):
    """The system, and that the goal is worth at most so much."""
    row = (most - goal[0], *[-coef for coef in goal[1:]])
    return (*system, ("least", row))


def _least_in_fractions(system, width, goal):
    """The least whole number that the goal can be worth at values that fit, broken ones too; there are some."""
    table = Table(system, width=width)
    table.clash()
    worth, divisor = table.greatest([-number for number in goal])
    # Divided down, with the signs turned, is divided up.
    return -(worth // divisor)
