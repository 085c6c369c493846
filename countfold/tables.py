"""Tables: the unknowns and the rows of a system, some of them told by the others."""

from countfold.rows import divisor_of

# How often a table is turned by the quick rule, ahead of the slow one, which surely ends.
_QUICK = 40


class Table:
    """The unknowns and the rows of a system that grows: HEADS, numbered in this order.

    As many heads as there are unknowns are FREE, and each other one is TOLD by a row over these. The table's point
    is where all free heads are 0; it fits where all told ones are 0 or more there.
    """

    def __init__(self, system, *, width):
        self.width = width
        self.many = width
        self.free = list(range(width))
        # All rows are told so many times, by which they stay whole.
        self.under = 1
        self.told = {}
        # The heads of nought rows that are free, and so stay 0.
        self.still = {}
        self.clashed = None
        for _, row in system:
            self.put(row)
        for number, (kind, _) in enumerate(system):
            if kind == "nought":
                self._settle(width + number)

    def twin(self):
        """A table of its own, alike."""
        other = Table((), width=self.width)
        other.many, other.under, other.clashed = self.many, self.under, self.clashed
        # Rows are never changed, only told anew.
        other.free, other.told, other.still = list(self.free), dict(self.told), dict(self.still)
        return other

    def put(self, row):
        """One more least row."""
        told = [self.under * row[0]]
        for head in self.free:
            told.append(self.under * row[1 + head] if head < self.width else 0)
        for head, coef in enumerate(row[1:]):
            if coef != 0 and head in self.told:
                told = [have + coef * more for have, more in zip(told, self.told[head])]
        self.told[self.many] = told
        self.many += 1

    def _settle(self, head):
        """The head of a nought row is free from now on, or needs no row."""
        row = self.told[head]
        places = [place for place in self._open_places() if row[place] != 0]
        if places:
            self._turn(head, places[0])
            self.still[head] = True
        elif row[0] == 0:
            del self.told[head]
        elif self.clashed is None:
            self.clashed = self._weights(head)

    def _open_places(self):
        """The places in told rows of the free heads that can be other than 0."""
        return [1 + at for at, head in enumerate(self.free) if head not in self.still]

    def _turn(self, head, place):
        """A told head is free from now on, and the one that was at this place is told."""
        row = self.told.pop(head)
        # The row of the one to be told, its own coef as a sign and a step.
        step, sign = abs(row[place]), 1 if row[place] > 0 else -1
        way = [-sign * part for part in row]
        way[place] = sign * self.under
        for other in list(self.told):
            self.told[other] = self._turned(self.told[other], way, place, step)
        self.told[self.free[place - 1]] = way
        self.free[place - 1] = head
        self.under = step

    def _turned(self, row, way, place, step):
        """A told row, over the heads that are free from now on."""
        often = row[place]
        if often == 0:
            return [step * part // self.under for part in row]
        turned = [(step * part + often * more) // self.under for part, more in zip(row, way)]
        turned[place] = often * way[place] // self.under
        return turned

    def clash(self):
        """Weights with which all rows clash, or None where the table fits: it is turned until it is either."""
        turns = 0
        while self.clashed is None:
            heads = [head for head in self.told if self.told[head][0] < 0]
            if not heads:
                return None
            head = self._lowest(heads) if turns < _QUICK else min(heads)
            place = self._raising(self.told[head], turns < _QUICK)
            if place is None:
                self.clashed = self._weights(head)
            else:
                self._turn(head, place)
            turns += 1
        return self.clashed

    def _lowest(self, heads):
        _, head = min([(self.told[head][0], head) for head in heads])
        return head

    def _raising(self, row, quick):
        """The place of a free head that raises a row as it grows, None where there is none."""
        places = [place for place in self._open_places() if row[place] > 0]
        if not places:
            return None
        if quick:
            _, place = max([(row[place], place) for place in places])
        else:
            _, place = min([(self.free[place - 1], place) for place in places])
        return place

    def _weights(self, head):
        """The weights of the rows that make, added, what tells that a head isn't as it has to be."""
        row = self.told[head]
        weights = [0] * self.many
        weights[head] = self.under
        for other, coef in zip(self.free, row[1:]):
            weights[other] = -coef
        # The weights of the unknowns say only how far below 0 the coefs are.
        weights = weights[self.width:]
        shared = divisor_of((0, *weights))
        if row[0] > 0:
            shared = -shared
        return tuple([weight // shared for weight in weights])

    def greatest(self, row):
        """A numerator and a divisor of the greatest worth of a row where rows fit, None where there is none.

        The table fits ahead; behind, its point is where the row is worth that.
        """
        self.put(row)
        self.many -= 1
        goal = self.many
        turns = 0
        while True:
            place = self._raising(self.told[goal], turns < _QUICK)
            head = None if place is None else self._first_down(goal, place)
            if head is None:
                break
            self._turn(head, place)
            turns += 1
        worth = self.told.pop(goal)[0]
        return (worth, self.under) if place is None else None

    def _first_down(self, goal, place):
        """The told head that is first at 0 as the free one at a place grows, None where there is none."""
        first, height, fall = None, 0, 1
        for head in sorted(self.told):
            row = self.told[head]
            if head != goal and row[place] < 0:
                if first is None or row[0] * fall < height * -row[place]:
                    first, height, fall = head, row[0], -row[place]
        return first

    def point(self):
        """The point's numerators of the unknowns, in a list, and what they are divided by."""
        return [self.told[head][0] if head in self.told else 0 for head in range(self.width)], self.under

    def has_wholes(self):
        """Whether all unknowns are whole at the point."""
        numerators, divisor = self.point()
        return all([number % divisor == 0 for number in numerators])

    def wholes(self):
        """The values of the unknowns at a point where they are whole."""
        numerators, divisor = self.point()
        return tuple([number // divisor for number in numerators])
