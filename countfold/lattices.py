"""Lattices: moves made short, as vectors measure them, so that few whole values lie along each read."""

from countfold.wholes import less_often, nearest, product_of


def shortened(vectors, moves, reads):
    """Moves that lead as far as these and have short vectors, and their reads, from few whole values to many.

    A vector is a move's own measure, added as the moves are; no vector is made of the others.
    """
    lattice = Lattice(vectors, moves, reads)
    lattice.shorten()
    return tuple(lattice.moves[::-1]), tuple(lattice.reads[::-1])


class Lattice:
    """Vectors, each with a move and its read, shortened as Lenstra, Lenstra and Lovasz do, in whole numbers."""

    def __init__(self, vectors, moves, reads):
        self.vectors = list(vectors)
        self.moves = list(moves)
        self.reads = list(reads)
        # By how much more room each vector takes than those ahead of it: the determinants of their products.
        self.rooms = [1]
        # For each vector how much of it lies along each one ahead, times that one's room.
        self.shadows = []

    def shorten(self):
        """Each vector is about as short, beside those ahead, as it can be."""
        at = 0
        while at < len(self.vectors):
            if at == len(self.shadows):
                self._measure(at)
            if at > 0:
                self._lessen(at, at - 1)
            if at > 0 and self._is_too_short(at):
                self._swap(at)
                at -= 1
            else:
                for other in range(at - 2, -1, -1):
                    self._lessen(at, other)
                at += 1

    def lessened(self, vector, move):
        """A move, less those of the lattice, which is shortened, as often as makes its vector short."""
        at = len(self.moves)
        self.vectors.append(vector)
        self.moves.append(move)
        self.reads.append(move)
        self._measure(at)
        for other in range(at - 1, -1, -1):
            self._lessen(at, other)
        self.vectors.pop()
        self.reads.pop()
        self.shadows.pop()
        self.rooms.pop()
        return self.moves.pop()

    def _measure(self, at):
        """The shadows and the room of a vector, those ahead being measured."""
        shadows = []
        self.shadows.append(shadows)
        for other in range(at + 1):
            shadow = product_of(self.vectors[at], self.vectors[other])
            for ahead in range(other):
                shadow = self.rooms[ahead + 1] * shadow - shadows[ahead] * self.shadows[other][ahead]
                shadow //= self.rooms[ahead]
            shadows.append(shadow)
        self.rooms.append(shadows.pop())

    def _lessen(self, at, other):
        """A vector less one ahead of it as often as makes its shadow there small."""
        often = nearest(self.shadows[at][other], self.rooms[other + 1])
        if often == 0:
            return
        self.vectors[at] = less_often(self.vectors[at], self.vectors[other], often)
        self.moves[at] = less_often(self.moves[at], self.moves[other], often)
        self.reads[other] = less_often(self.reads[other], self.reads[at], -often)
        shadows = self.shadows[other] + [self.rooms[other + 1]]
        kept = self.shadows[at][other + 1:]
        self.shadows[at] = list(less_often(self.shadows[at][:other + 1], shadows, often)) + kept

    def _is_too_short(self, at):
        """Whether a vector, beside those ahead of both, is clearly shorter than the one ahead of it."""
        shadow, room = self.shadows[at][at - 1], self.rooms[at]
        return 4 * (self.rooms[at + 1] * self.rooms[at - 1] + shadow * shadow) < 3 * room * room

    def _swap(self, at):
        """A vector and the one ahead of it change places."""
        _exchange(self.vectors, at)
        _exchange(self.moves, at)
        _exchange(self.reads, at)
        one, other = self.shadows[at - 1], self.shadows[at]
        shadow = other[at - 1]
        self.shadows[at - 1], self.shadows[at] = other[:at - 1], one + [shadow]
        ahead, room, behind = self.rooms[at - 1:at + 2]
        new = (ahead * behind + shadow * shadow) // room
        for shadows in self.shadows[at + 1:]:
            first, second = shadows[at - 1], shadows[at]
            shadows[at] = (behind * first - shadow * second) // room
            shadows[at - 1] = (new * second + shadow * shadows[at]) // behind
        self.rooms[at] = new


def _exchange(things, at):
    """A thing and the one ahead of it change places."""
    things[at - 1], things[at] = things[at], things[at - 1]
