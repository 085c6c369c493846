import copy
import itertools
import math
import unittest

from countfold.errors import NotBase
from countfold.wholes import settled, shows_rest, spread, times_of
from tests import adding
from tests.makers import Maker
from tests.things import THIRTY, nested, no_texts, no_wholes, refused


class Settled(unittest.TestCase):
    def check(self, rows, width):
        """A base or a rest, gone over; the word of it."""
        paper = settled(rows, width=width)
        if paper[0] == "base":
            self.assertTrue(adding.is_base(rows, paper, width), (rows, paper))
            self.assertIs(shows_rest(rows, paper, width=width), False)
        else:
            self.assertTrue(adding.is_rest(rows, paper, width), (rows, paper))
            self.assertIs(shows_rest(rows, paper, width=width), True)
        return paper

    def test_no_rows(self):
        for width in range(13):
            word, _, moves, _ = self.check([], width)
            self.assertEqual((word, len(moves)), ("base", width))

    def test_rows_all_0(self):
        for width in range(4):
            word, _, moves, _ = self.check([(0,) * (width + 1)] * 3, width)
            self.assertEqual((word, len(moves)), ("base", width))

    def test_as_many_moves_as_are_left(self):
        for rows, width, left in [([(0, 1)], 1, 0), ([(-6, 2, 3)], 2, 1), ([(-6, 2, 3), (12, -4, -6)], 2, 1),
                                  ([(-5, 1, 1, 1), (-1, 1, -1, 0)], 3, 1), ([(0, 6, 10, 15)], 3, 2),
                                  ([(-7, 1, 0, 2), (0, 0, 0, 0), (-3, 0, 0, 1)], 3, 1)]:
            word, _, moves, _ = self.check(rows, width)
            self.assertEqual((word, len(moves)), ("base", left))
            self.assertEqual(len(self.check([list(row) for row in rows], width)[2]), left)
            self.check(tuple(rows), width)

    def test_no_whole_values_of_one_row(self):
        for rows, width in [([(1, 2)], 1), ([(3, 6, 9)], 2), ([(-1, 2, -4, 6)], 3), ([(5,)], 0), ([(-1, 0, 0)], 2),
                            ([(0, 1), (6, 0)], 1), ([(720720, 0)], 1), ([(THIRTY, 2 * THIRTY + 2)], 1)]:
            word = self.check(rows, width)[0]
            solved = all(row[0] == 0 or any(row[1:]) and row[0] % math.gcd(*row[1:]) == 0 for row in rows)
            self.assertEqual(word, "base" if solved else "rest")

    def test_no_whole_values_of_rows_added(self):
        for rows, width in [([(0, 1, 1), (-1, 1, -1)], 2), ([(-1, 1, 1, 0), (-1, 0, 1, 1), (-1, 1, 0, 1)], 3),
                            ([(0, 1, 2), (-1, 1, 2)], 2), ([(0, 3, 5), (-1, 5, 3)], 2),
                            ([(-1, 2, 3), (-2, 4, 6), (-1, 4, 6)], 2), ([(0, 1, 1, 1, 1), (1, 3, 1, -1, 5)], 4)]:
            self.assertEqual(self.check(rows, width)[0], "rest")
            for cut in range(len(rows)):
                self.check(rows[:cut] + rows[cut + 1:], width)

    def test_just_where_there_are_some(self):
        maker = Maker(7)
        words = []
        for _ in range(400):
            width, most = maker.whole(0, 3), maker.among(1, 2, 3)
            rows = [maker.row(width, most) for _ in range(maker.whole(0, 3))]
            paper = self.check(rows, width)
            words.append(paper[0])
            found = [values for values in itertools.product(range(-4, 5), repeat=width)
                     if all(adding.worth(row, values) == 0 for row in rows)]
            if found:
                self.assertEqual(paper[0], "base")
            # The point and the moves, so often, lead to each of them.
            for values in found:
                self.assertEqual(spread(paper, times_of(paper, values)), values)
        self.assertGreater(min(words.count("base"), words.count("rest")), 50)

    def test_many_figures(self):
        maker = Maker(8)
        for _ in range(30):
            width = maker.whole(1, 12)
            rows = [maker.row(width, THIRTY) for _ in range(maker.whole(1, width))]
            self.check(rows, width)
            values = maker.row(width, THIRTY)[1:]
            solved = [(row[0] - adding.worth(row, values), *row[1:]) for row in rows]
            paper = self.check(solved, width)
            self.assertEqual(paper[0], "base")
            self.assertEqual(spread(paper, times_of(paper, values)), values)

    def test_what_is_told_may_be_handed_on(self):
        maker = Maker(9)
        rows = [maker.row(8, THIRTY) for _ in range(7)]
        _, point, moves, _ = paper = self.check([(0, *row[1:]) for row in rows], 8)
        far = spread(paper, [10 ** 5000] * len(moves))
        self.assertEqual(times_of(paper, far), [10 ** 5000] * len(moves))
        again = self.check([(-adding.product(move, far), *move) for move in moves], 8)
        self.assertEqual(again[0], "base")


class ShowsRest(unittest.TestCase):
    ROWS = [(0, 1, 1), (-1, 1, -1)]

    def test_rests(self):
        for thing in [("rest", (1, 1), 2), ("rest", (1, -1), 2), ("rest", (3, 5), 2), ("rest", (-1, -1), 2)]:
            self.assertIs(shows_rest(self.ROWS, thing, width=2), True)
            self.assertIs(shows_rest(tuple(list(row) for row in self.ROWS), thing, width=2), True)
        self.assertIs(shows_rest(thing=("rest", (1,), 2), rows=[(1,)], width=0), True)
        self.assertIs(shows_rest([(6, 4, 10)], ("rest", (1,), 2), width=2), False)
        self.assertIs(shows_rest([(7, 4, 10)], ("rest", (1,), 2), width=2), True)
        self.assertIs(shows_rest([(7, 4, 10)], ("rest", (2,), 4), width=2), True)
        self.assertIs(shows_rest([(5, 0)], ("rest", (THIRTY,), 10 * THIRTY), width=1), True)

    def test_one_step_off(self):
        for thing in [("rest", (1, 1), 1), ("rest", (1, 1), 0), ("rest", (1, 1), -2), ("rest", (1, 1), 3),
                      ("rest", (1, 1), 4), ("rest", (1, 0), 2), ("rest", (2, 2), 2), ("rest", (0, 0), 2),
                      ("rest", (1,), 2), ("rest", (1, 1, 0), 2), ("rest", (), 2), ("base", (1, 1), 2), ("rest", (1, 1)),
                      ("rest", (1, 1), 2, 2), ("rest", [1, 1], 2), ["rest", (1, 1), 2], ("rest", 2, (1, 1)),
                      ((1, 1), 2), ("rest", (True, True), 2), ("rest", (1, True), 2), ("rest", (1, 1), "2"),
                      ("rest", (1, 1), None), ("rest", ((1, 1),), 2), ("clash", (1, 1), 2), (None, (1, 1), 2),
                      (("rest",), (1, 1), 2), ("rest", {0: 1, 1: 1}, 2), ("rest", "11", 2), ("rest", (1, None), 2)]:
            self.assertIs(shows_rest(self.ROWS, thing, width=2), False, thing)
        self.assertIs(shows_rest([(1, 0)], ("rest", (1,), True), width=1), False)
        self.assertIs(shows_rest([], ("rest", (), 2), width=3), False)

    def test_of_anything(self):
        for thing in [*no_texts(), *no_wholes(), nested(16), ("rest", nested(14), 2), ("rest", (1, 1), nested(14))]:
            self.assertIs(shows_rest(self.ROWS, thing, width=2), False)
            self.assertIs(shows_rest([], thing, width=0), False)


class SpreadAndTimes(unittest.TestCase):
    def test_back_and_forth(self):
        paper = settled([(-6, 2, 3, 5)], width=3)
        for times in itertools.product([-THIRTY, -1, 0, 1, 7], repeat=2):
            values = spread(paper, list(times))
            self.assertTrue(adding.are_wholes(values))
            self.assertEqual(adding.worth((-6, 2, 3, 5), values), 0)
            self.assertEqual(times_of(paper, values), list(times))
            self.assertEqual(spread(times=times, paper=paper), values)
            self.assertEqual(times_of(values=list(values), paper=paper), list(times))

    def test_a_base_of_anybody(self):
        paper = ("base", (1, 0), ((2, 5),), ((3, -1),))
        self.assertEqual(spread(paper, [0]), (1, 0))
        self.assertEqual(spread(paper, [-2]), (-3, -10))
        self.assertEqual(times_of(paper, (-3, -10)), [-2])
        self.assertEqual(times_of(paper, (2, 0)), [3])
        self.assertEqual(spread(("base", (4, 5), (), ()), []), (4, 5))
        self.assertEqual(times_of(("base", (4, 5), (), ()), (4, 5)), [])
        self.assertEqual(spread(("base", (), (), ()), []), ())

    def test_a_new_list_each_time(self):
        paper = settled([], width=2)
        first = times_of(paper, (1, 2))
        self.assertIs(type(first), list)
        first.append(3)
        self.assertEqual(len(times_of(paper, (1, 2))), 2)

    def test_not_base(self):
        paper = settled([(1, 2)], width=1)
        self.assertIs(refused(self, NotBase, spread, paper, []).paper, paper)
        self.assertIs(refused(self, NotBase, times_of, paper, (1,)).paper, paper)
        self.assertIs(refused(self, NotBase, spread, paper, [10 ** 5000]).paper, paper)


class StaysAsItWas(unittest.TestCase):
    def test_what_is_handed_in_and_the_answers(self):
        rows = [[-5, 1, 2, 3], [0, 4, -4, 1]]
        given, times = copy.deepcopy(rows), [3]
        papers = [settled(given, width=3) for _ in range(2)]
        self.assertEqual(papers[0], papers[1])
        self.assertEqual(spread(papers[0], times), spread(papers[0], times))
        shows_rest(given, ("rest", (1, 1), 2), width=3)
        self.assertEqual((given, times), (rows, [3]))


if __name__ == "__main__":
    unittest.main()
