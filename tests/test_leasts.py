import itertools
import unittest

from countfold.leasts import least_fit
from tests import adding
from tests.makers import Maker
from tests.test_fits import boxed
from tests.things import THIRTY


class LeastFit(unittest.TestCase):
    def test_against_all_whole_values_of_small_boxes(self):
        maker = Maker(90)
        none = 0
        for _ in range(250):
            width, most = maker.whole(0, 3), maker.whole(1, 4)
            system = maker.system(width, maker.whole(0, 2), maker.among(1, 3, 7)) + boxed(width, most)
            goal = maker.row(width, maker.among(3, 9, THIRTY))
            worths = [adding.worth(goal, values) for values in itertools.product(range(most + 1), repeat=width)
                      if adding.fit(system, values)]
            for below in [None, *[worth + more for worth in sorted(worths)[:2] for more in (-1, 0, 1)]]:
                found = least_fit(system, width=width, goal=goal, below=below)
                if worths and (below is None or min(worths) < below):
                    worth, values = found
                    self.assertEqual((worth, adding.worth(goal, values)), (min(worths), min(worths)))
                    self.assertTrue(adding.are_wholes(values) and adding.fit(system, values))
                else:
                    none += 1
                    self.assertIsNone(found)
        self.assertGreater(none, 100)

    def test_far_from_the_least_in_fractions(self):
        # 3 x and 5 y are 7 or more: whole values are worth 8 at least, broken ones 7.
        system = (("least", (-7, 3, 5)), *boxed(2, 99))
        self.assertEqual(least_fit(system, width=2, goal=(0, 3, 5), below=None), (8, (1, 1)))
        self.assertEqual(least_fit(system, width=2, goal=(-8, 3, 5), below=1), (0, (1, 1)))
        self.assertIsNone(least_fit(system, width=2, goal=(0, 3, 5), below=8))
        system = (("nought", (-1, THIRTY, -THIRTY + 1)), *boxed(2, THIRTY))
        self.assertEqual(least_fit(system, width=2, goal=(0, THIRTY, 1), below=None), (THIRTY + 1, (1, 1)))


if __name__ == "__main__":
    unittest.main()
