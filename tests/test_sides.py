import unittest

from countfold.cases import cases_of
from countfold.fits import parted_fit
from countfold.pairs import pair_system
from countfold.parts import part_of
from countfold.sides import sided_reads
from countfold.systems import width_of
from countfold.tables import Table
from countfold.talks import Talk
from tests import adding
from tests.makers import Maker
from tests.test_fits import boxed
from tests.test_prover import said


def parted(paper, ones):
    return not any(any(step[1][1:1 + ones]) and any(step[1][1 + ones:]) for step in paper if step[0] == "split")


class SidedReads(unittest.TestCase):
    def test_each_is_of_one_side_and_all_unknowns_are_read(self):
        maker = Maker(110)
        many = 0
        for _ in range(120):
            width = maker.whole(2, 4)
            ones = maker.whole(1, width - 1)
            system = (*maker.system_at(tuple(maker.whole(0, 5) for _ in range(width)), maker.whole(1, 3), 4), *boxed(width, 5))
            table = Table(system, width=width)
            self.assertIsNone(table.clash())
            for reads in sided_reads(system, table, width=width, ones=ones):
                self.assertTrue(all(len(read) == width and not (any(read[:ones]) and any(read[ones:])) for read in reads))
                self.assertTrue({tuple(int(at == other) for other in range(width)) for at in range(width)} <= set(reads))
                many += len(reads) > width
        self.assertGreater(many, 50)

    def test_what_has_no_whole_value_comes_first(self):
        # The size of a is 2 m + 1 in least rows, and twice a number by a nought row, of one side alone.
        talk = Talk(("a",), ("m",), most=20)
        ones, others = said("[2 | 1 #a]", "[1 #a <= 2 m + 1]", "[2 m + 1 <= 1 #a]"), said("[1 #a <= 19]")
        for first, second in ((ones, others), (others, ones)):
            one, other = part_of(talk, first), part_of(talk, second)
            case, other_case = cases_of(one, first)[0], cases_of(other, second)[0]
            system, width = pair_system(one, case, other, other_case), width_of(one, case)
            word, paper = parted_fit(system, width=width + width_of(other, other_case), ones=width)
            self.assertEqual((word, [step[0] for step in paper]), ("no", ["split", "clash", "clash"]))


class PartedFit(unittest.TestCase):
    def test_against_all_values(self):
        maker = Maker(111)
        words = []
        for _ in range(250):
            width, most = maker.whole(2, 4), maker.whole(2, 3)
            ones = maker.whole(1, width - 1)
            system = (*maker.system(width, maker.whole(1, 3), 6), *boxed(width, most))
            word, found = parted_fit(system, width=width, ones=ones)
            words.append(word)
            self.assertEqual(word == "fit", adding.some_fit(system, width, most))
            if word == "fit":
                self.assertTrue(adding.fit(system, found))
            else:
                self.assertTrue(adding.is_paper(system, found, width))
                self.assertTrue(parted(found, ones))
        self.assertGreater(min(words.count("fit"), words.count("no")), 50)

    def test_splits_of_either_side_where_both_clash(self):
        # 2 x is 2 y + 1, in least rows alone.
        system = (("least", (1, -2, 2)), ("least", (-1, 2, -2)), *boxed(2, 30))
        word, paper = parted_fit(system, width=2, ones=1)
        self.assertEqual(word, "no")
        self.assertTrue(adding.is_paper(system, paper, 2) and parted(paper, 1))
        self.assertLess(len(paper), 200)


if __name__ == "__main__":
    unittest.main()
