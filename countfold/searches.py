"""Searches: tables split again and again, until whole values that fit show, or that there are none."""

from countfold.papers import other_side
from countfold.wholes import nearest, product_of


class Search:
    """The steps of a paper so far, and the tables, with the numbers of their steps, that are yet to be looked at."""

    def __init__(self, table, reads, *, by_middles):
        self.reads = reads
        self.by_middles = by_middles
        self.steps = [None]
        self.waiting = [(0, table)]

    def look(self):
        """Looks at one table. Whole values that fit, or a paper, or None where neither shows yet."""
        number, table = self.waiting.pop()
        weights = table.clash()
        if weights is not None:
            self.steps[number] = ("clash", weights)
            return None if self.waiting else ("no", tuple(self.steps))
        if table.has_wholes():
            return "fit", table.wholes()
        rows = self._middle_rows(table) if self.by_middles else self._near_rows(table)
        if not rows:
            return "fit", table.wholes()
        self._split(number, table, rows)
        return None

    def _split(self, number, table, rows):
        """Splits a table by rows, each the left side of the one ahead; the last left side is looked at first."""
        for row in rows:
            left = table.twin()
            left.put(row)
            table.put(other_side(row))
            behind = len(self.steps)
            self.steps[number] = ("split", row, behind, behind + 1)
            self.steps.extend([None, None])
            self.waiting.append((behind + 1, table))
            number, table = behind, left
        self.waiting.append((number, table))

    def _near_rows(self, table):
        """A row by whose sides the first read that is broken at the point is rounded; the left one is nearer."""
        numerators, divisor = table.point()
        for read in self.reads:
            low, over = divmod(product_of(read, numerators), divisor)
            if over != 0:
                return [(low, *_turned(read)) if 2 * over <= divisor else (-low - 1, *read)]
        return []

    def _middle_rows(self, table):
        """Rows by which the first read that isn't settled yet gets the whole value in the middle of its own.

        There most room is left for the reads behind it.
        """
        for read in self.reads:
            high, low = table.greatest((0, *read)), table.greatest((0, *_turned(read)))
            # There is no middle of what has no end.
            if high is None or low is None:
                return self._near_rows(table)
            rows = _around_middle(read, high, low)
            if rows:
                return rows
        return []


def _around_middle(read, high, low):
    """Rows that leave a read the whole value in the middle; high, low: its greatest worth, and that of it turned."""
    above, above_divisor = high
    below, below_divisor = low
    middle = nearest(above * below_divisor - below * above_divisor, 2 * above_divisor * below_divisor)
    rows = [(-middle, *read)] if -below < middle * below_divisor else []
    return rows + ([(middle, *_turned(read))] if above > middle * above_divisor else [])


def _turned(read):
    return tuple([-coef for coef in read])
