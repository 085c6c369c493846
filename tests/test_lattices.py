import copy
import unittest
from fractions import Fraction

from countfold.lattices import Lattice, shortened
from tests.adding import product
from tests.makers import Maker


def units(many):
    return [tuple(int(at == other) for other in range(many)) for at in range(many)]


class Shortened(unittest.TestCase):
    def test_as_told(self):
        maker = Maker(70)
        for _ in range(60):
            many, most = maker.whole(0, 8), maker.among(2, 10, 10 ** 6, 10 ** 20)
            vectors = [(*maker.row(7, most), *unit) for unit in units(many)]
            lattice = Lattice(vectors, units(many), units(many))
            lattice.shorten()
            for at, (vector, move) in enumerate(zip(lattice.vectors, lattice.moves)):
                self.assertEqual(tuple(vector), tuple(sum(often * old[place] for often, old in zip(move, vectors))
                                                      for place in range(8 + many)))
                self.assertEqual([product(move, read) for read in lattice.reads], list(units(many)[at]))
            self.assertShort(lattice)
            self.assertEqual(shortened(vectors, units(many), units(many)), (tuple(lattice.moves[::-1]), tuple(lattice.reads[::-1])))

    def assertShort(self, lattice):
        straight = []
        for at, vector in enumerate(lattice.vectors):
            rest, shadow = [Fraction(part) for part in vector], 0
            for other, ahead in enumerate(straight):
                shadow = product(vector, ahead) / product(ahead, ahead)
                self.assertLessEqual(abs(shadow), Fraction(1, 2))
                self.assertEqual(shadow, Fraction(lattice.shadows[at][other], lattice.rooms[other + 1]))
                rest = [part - shadow * more for part, more in zip(rest, ahead)]
            if straight:
                room = product(straight[-1], straight[-1])
                self.assertGreaterEqual(product(rest, rest), (Fraction(3, 4) - shadow * shadow) * room)
            straight.append(rest)

    def test_the_thin_way_comes_first(self):
        # Over (9, 10) the first coordinate changes by 1, the second by 90: along (10, -9) only a little room is.
        vectors = [(100 * 9, 0), (100 * 10, 1)]
        first = shortened(vectors, units(2), units(2))[1][0]
        self.assertIn(first, [(9, 10), (-9, -10)])
        self.assertEqual(shortened([], [], []), ((), ()))

    def test_lessened(self):
        maker = Maker(71)
        for _ in range(40):
            many, most = maker.whole(0, 5), maker.among(2, 10, 10 ** 6)
            vectors = [(*maker.row(7, most), *unit) for unit in units(many)]
            lattice = Lattice(vectors, units(many), units(many))
            lattice.shorten()
            kept = copy.deepcopy((lattice.vectors, lattice.moves, lattice.shadows, lattice.rooms))
            vector, move = (*maker.row(7, 10 ** 9), *[0] * many), (0,) * many
            often = lattice.lessened(vector, move)
            self.assertEqual((lattice.vectors, lattice.moves, lattice.shadows, lattice.rooms), kept)
            short = [part + sum(times * old[place] for times, old in zip(often, vectors)) for place, part in enumerate(vector)]
            straight = []
            for ahead in lattice.vectors:
                rest = [Fraction(part) for part in ahead]
                for one in straight:
                    rest = [part - product(ahead, one) / product(one, one) * more for part, more in zip(rest, one)]
                straight.append(rest)
                self.assertLessEqual(abs(product(short, rest) / product(rest, rest)), Fraction(1, 2))


if __name__ == "__main__":
    unittest.main()
