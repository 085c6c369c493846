import unittest

from countfold.reads import reads_of
from countfold.searches import Search
from countfold.tables import Table
from tests import adding
from tests.makers import Maker
from tests.test_fits import banded, boxed


def answers(system, width):
    """What a search by points and one by middles find, and the reads; None where the system clashes at once."""
    table = Table(system, width=width)
    if table.clash() is not None:
        return None
    reads = reads_of(system, table, width=width)
    found = []
    for by_middles in (False, True):
        search = Search(table.twin(), reads, by_middles=by_middles)
        answer = None
        while answer is None:
            answer = search.look()
        found.append(answer)
    return reads, found


class Searches(unittest.TestCase):
    def test_either_way_finds_the_same(self):
        maker = Maker(80)
        words = []
        for _ in range(200):
            width, most = maker.whole(2, 3), maker.whole(2, 5)
            bands = [banded(maker.row(width, 9), maker.whole(0, 3)) for _ in range(maker.whole(1, 2))]
            system = tuple(row for band in bands for row in band) + boxed(width, most)
            told = answers(system, width)
            if told is None:
                continue
            reads, found = told
            fit = adding.some_fit(system, width, most)
            for word, thing in found:
                words.append(word)
                self.assertEqual(word, "fit" if fit else "no")
                self.assertTrue(adding.fit(system, thing) if fit else adding.is_paper(system, thing, width))
            self.assertTrue(all(adding.are_wholes(read) and len(read) == width for read in reads))
        self.assertGreater(min(words.count("fit"), words.count("no")), 50)

    def test_one_split_of_what_is_never_whole(self):
        # Least rows alone say that 2 (x + y + 2 z) is odd, and that x is y.
        system = (*banded((-1, 1, 1, 2), 0), *banded((0, 1, -1, 0), 0), *boxed(3, 99))
        reads, found = answers(system, 3)
        self.assertEqual(len(reads), 1)
        for word, paper in found:
            self.assertEqual((word, [step[0] for step in paper]), ("no", ["split", "clash", "clash"]))

    def test_reads_that_are_settled_are_left_out(self):
        for system, many in [((("nought", (-5, 1, 1, 1)),), 2), (banded((-5, 1, 1, 1), 0), 2), (boxed(3, 9), 3),
                             ((*boxed(3, 9), *banded((-5, 1, 1, 1), 0), ("least", (0, -1, 0, 0))), 1)]:
            table = Table(system, width=3)
            self.assertIsNone(table.clash())
            self.assertEqual(len(reads_of(system, table, width=3)), many)


if __name__ == "__main__":
    unittest.main()
