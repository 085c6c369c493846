import copy
import unittest

from countfold.fits import whole_fit
from countfold.papers import shows_no
from countfold.trims import is_trim, rows_used, trimmed
from tests import adding
from tests.makers import Maker
from tests.test_papers import BROKEN, CLASH, CLASHING, REST, SPLIT, UNEVEN, long_paper

# x is 1 or more, 0 or less; 5 or less; y is 3.
IDLE = (("least", (-1, 1, 0)), ("least", (5, -1, 0)), ("least", (0, -1, 0)), ("nought", (-3, 0, 1)))


def clash(*more):
    """A clash of the system's own rows, with weights of splits behind."""
    return ("clash", (1, 0, 1, 0, *more))


def without(system, paper, numbers):
    """The system and the paper with these of the system's rows left out, and their weights."""
    kept = [at for at in range(len(system)) if at not in numbers]
    steps = [step if step[0] == "split" else
             (step[0], tuple(weight for at, weight in enumerate(step[1]) if at not in numbers), *step[2:]) for step in paper]
    return tuple(system[at] for at in kept), tuple(steps)


class RowsUsed(unittest.TestCase):
    def test_told(self):
        self.assertEqual(rows_used(CLASHING, CLASH), [0, 1])
        self.assertEqual(rows_used(UNEVEN, REST), [2])
        self.assertEqual(rows_used(BROKEN, SPLIT), [0, 1])
        self.assertEqual(rows_used(paper=(clash(),), system=IDLE), [0, 2])
        self.assertEqual(rows_used(IDLE, (("clash", (0, 0, 0, 0)),)), [])
        self.assertEqual(rows_used(IDLE, (("clash", (0, -3, 0, -1)),)), [1, 3])
        self.assertEqual(rows_used((), (("split", (0,), 1, 2), ("clash", (1,)), ("clash", (1,)))), [])

    def test_rows_of_splits_are_not_the_system_s(self):
        self.assertEqual(rows_used(IDLE, (("split", (0, 1, 0), 1, 2), clash(5), clash(0))), [0, 2])
        self.assertEqual(rows_used(IDLE, (("split", (0, 1, 0), 1, 2), clash(0), ("clash", (1, 1, 0, 0, 4)))), [0, 1, 2])

    def test_a_new_list_each_time(self):
        first = rows_used(CLASHING, CLASH)
        self.assertIs(type(first), list)
        first.append(9)
        self.assertEqual(rows_used(CLASHING, CLASH), [0, 1])


class LeftOut(unittest.TestCase):
    def test_rows_that_are_not_used(self):
        maker = Maker(30)
        many = 0
        for _ in range(300):
            width = maker.whole(1, 4)
            bounds = ("least", (9, *[-1] * width))
            system = (bounds, *maker.system(width, maker.whole(1, 6), maker.among(1, 3, 9)))
            word, paper = whole_fit(system, width=width)
            if word == "no":
                used = rows_used(system, paper)
                idle = [at for at in range(len(system)) if at not in used]
                less, steps = without(system, paper, idle)
                self.assertTrue(adding.is_paper(less, steps, width))
                self.assertIs(shows_no(less, steps, width=width), True)
                many += len(idle) > 0
        self.assertGreater(many, 50)


class Trimmed(unittest.TestCase):
    def check(self, system, paper, width):
        self.assertTrue(adding.is_paper(system, paper, width))
        trim = trimmed(system, paper, width=width)
        self.assertTrue(adding.is_paper(system, trim, width), (paper, trim))
        self.assertIs(is_trim(system, trim), True)
        self.assertLessEqual(len(trim), len(paper))
        if is_trim(system, paper):
            self.assertEqual(len(trim), len(paper))
        self.assertEqual(len(trimmed(system, trim, width=width)), len(trim))
        return trim

    def test_without_splits(self):
        for system, paper, width in [(CLASHING, CLASH, 1), (UNEVEN, REST, 2)]:
            self.assertIs(is_trim(system, paper), True)
            self.assertEqual(self.check(system, paper, width), paper)

    def test_no_idle_split(self):
        self.assertIs(is_trim(paper=SPLIT, system=BROKEN), True)
        self.assertEqual(len(self.check(BROKEN, SPLIT, 1)), 3)
        system = (("least", (-1, 2)), ("least", (1, -2)))
        self.assertEqual(len(self.check(system, long_paper(1), 1)), 3)

    def test_an_idle_left_a_right_and_both(self):
        row = (0, 1, 0)
        # -1 - x is never 0 or more: that side clashes by its row alone.
        alone = ("clash", (0, 0, 0, 0, 1))
        for paper in [(("split", row, 1, 2), clash(0), alone), (("split", (-1, -1, 0), 2, 1), clash(0), alone),
                      (("split", row, 1, 2), clash(0), clash(0))]:
            self.assertIs(is_trim(IDLE, paper), False)
            self.assertEqual(self.check(IDLE, paper, 2), (clash(),))
        self.assertEqual(trimmed(paper=(("split", row, 2, 1), clash(0), clash(0)), system=IDLE, width=2), (clash(),))

    def test_idle_ones_within_one_another(self):
        rows = [(number, 1, 0) for number in range(4)]
        chain = []
        for number, row in enumerate(rows):
            chain += [("split", row, 2 * number + 2, 2 * number + 1), clash(*[0] * (number + 1))]
        chain.append(clash(0, 0, 0, 0))
        self.assertIs(is_trim(IDLE, tuple(chain)), False)
        self.assertEqual(self.check(IDLE, tuple(chain), 2), (clash(),))

    def test_an_idle_split_ahead_of_one_that_is_not(self):
        # In the path of the second split the first one's row comes first.
        first = ("split", (7, 3), 1, 4)
        left = [("split", (0, -1), 2, 3), ("clash", (1, 0, 0, 4)), ("clash", (0, 1, 0, 4))]
        right = [("split", (0, -1), 5, 6), ("clash", (1, 0, 0, 4)), ("clash", (0, 1, 0, 4))]
        paper = (first, *left, *right)
        self.assertIs(is_trim(BROKEN, paper), False)
        self.assertEqual(self.check(BROKEN, paper, 1), SPLIT)

    def test_an_idle_split_behind_one_that_is_not(self):
        paper = (SPLIT[0], ("split", (5, 5), 3, 4), SPLIT[2], ("clash", (1, 0, 4, 0)), ("clash", (1, 0, 4, 0)))
        self.assertIs(is_trim(BROKEN, paper), False)
        self.assertEqual(self.check(BROKEN, paper, 1), SPLIT)

    def test_used_where_it_is_no_more_once_another_split_is_gone(self):
        # The first split's row is used on its left side by step 4 alone, which goes with the idle second split.
        paper = (("split", (0, 1, 0), 1, 2), ("split", (3, 1, 0), 3, 4), ("clash", (0, 0, 0, 0, 1)),
                 clash(0, 0), ("clash", (1, 0, 2, 0, 1, 0)))
        self.assertIs(is_trim(IDLE, paper), False)
        self.assertEqual(self.check(IDLE, paper, 2), (clash(),))

    def test_of_many_steps(self):
        for many in (2, 40, 300):
            system = (("least", (-1, 2)), ("least", (1, -2)))
            self.assertEqual(len(self.check(system, long_paper(many), 1)), 3)

    def test_rests_stay_rests(self):
        paper = (("split", (0, 1, 1), 1, 2), ("rest", (0, 0, 1, 0, 0), 2), ("clash", (0, 0, 0, 0, 1)))
        self.assertEqual(self.check(UNEVEN, paper, 2), REST)

    def test_made_ones(self):
        maker = Maker(31)
        less = 0
        for _ in range(150):
            width = maker.whole(3, 8)
            bands = [maker.row(width, 20) for _ in range(4)]
            system = (("least", (30, *[-1] * width)), *[("least", row) for row in bands],
                      *[("least", (1 - row[0], *[-coef for coef in row[1:]])) for row in bands])
            word, paper = whole_fit(system, width=width)
            if word == "no":
                less += len(self.check(system, paper, width)) < len(paper)
        self.assertGreater(less, 3)


class StaysAsItWas(unittest.TestCase):
    def test_what_is_handed_in_and_the_answers(self):
        system = tuple((kind, list(row)) for kind, row in IDLE)
        paper = (("split", (0, 1, 0), 1, 2), clash(0), clash(0))
        given, steps = copy.deepcopy(system), copy.deepcopy(paper)
        for _ in range(2):
            self.assertEqual(trimmed(given, steps, width=2), (clash(),))
            self.assertEqual(rows_used(given, steps), [0, 2])
            self.assertIs(is_trim(given, steps), False)
        self.assertEqual((given, steps), (system, paper))


if __name__ == "__main__":
    unittest.main()
