import copy
import itertools
import unittest

from countfold.errors import NoExchange
from countfold.exchanges import can_exchange, column, exchanged
from countfold.rows import row_worth
from countfold.talks import Talk
from countfold.worlds import is_world
from tests.makers import NAMES, NUMBERS, Maker
from tests.things import THIRTY, nested, no_texts, no_wholes, refused

TALK = Talk(("a", "b"), ("n",), most=9)
# As many in a as in region 0; region 3 counts as 1 and 2 together.
ROWS = ((5, 1, 1, 0, 1, 7), (0, 2, 2, 1, 3, -1))
WORLD = ((2, 3, 1, 1), (4,))


def groups(regions):
    return [group for many in range(regions + 1) for group in itertools.combinations(range(regions), many)]


class Column(unittest.TestCase):
    def test_told(self):
        self.assertEqual(column(ROWS, (0,)), [1, 2])
        self.assertEqual(column(ROWS, (0, 1, 3)), [3, 7])
        self.assertEqual(column(ROWS, ()), [0, 0])
        self.assertEqual(column((), (0, 1)), [])
        self.assertEqual(column([], ()), [])
        self.assertEqual(column(group=(1, 2), rows=ROWS), [1, 3])
        self.assertEqual(column([list(row) for row in ROWS], (3,)), [1, 3])
        self.assertEqual(column([(0, THIRTY, -THIRTY, 1)], (0, 1)), [0])
        self.assertEqual(column([(0, THIRTY, THIRTY, 1)], (0, 1)), [2 * THIRTY])

    def test_the_list_is_new(self):
        column(ROWS, (0,)).append(1)
        self.assertEqual(column(ROWS, (0,)), [1, 2])


class CanExchange(unittest.TestCase):
    def yes(self, thing, world=WORLD, rows=ROWS):
        self.assertIs(can_exchange(TALK, rows, world, thing), True, thing)

    def no(self, thing, world=WORLD, rows=ROWS):
        self.assertIs(can_exchange(TALK, rows, world, thing), False, thing)

    def test_told(self):
        for often in (1, 2):
            self.yes(((0,), (1,), often))
            self.yes(((1,), (0,), often))
        self.yes(((1,), (0,), 3))
        self.no(((0,), (1,), 3))
        self.yes(((1, 2), (3,), 1))
        self.yes(((0, 2), (3,), 1))
        self.assertIs(can_exchange(thing=((1,), (0,), 1), world=WORLD, rows=ROWS, talk=TALK), True)
        self.assertIs(can_exchange(TALK, [list(row) for row in ROWS], WORLD, ((1,), (0,), 1)), True)

    def test_fewer_regions_than_other(self):
        self.no(((3,), (1, 2), 1))
        self.yes(((1, 2), (3,), 1))

    def test_one_is_not_empty(self):
        rows = ((0, 0, 1, 0, 1, 0),)
        self.yes(((0,), (), 2), rows=rows)
        self.yes(((0, 2), (), 1), rows=rows)
        self.no(((), (0,), 1), rows=rows)
        self.no(((), (), 1), rows=rows)
        self.no(((), (), 1))

    def test_columns_differ(self):
        for one, other in [((0,), (2,)), ((0, 1), (2, 3)), ((0,), ()), ((3,), (2,)), ((0, 2), (1,))]:
            self.no((one, other, 1))
        # Of one row alike, of the other not.
        self.no(((0,), (3,), 1))
        self.yes(((0,), (3,), 1), rows=ROWS[:1])
        # The coefs of numbers and the constants stand in no column.
        self.yes(((0,), (1,), 1), rows=((9, 1, 1, 0, 0, 8),))

    def test_without_rows_all_are_alike(self):
        self.yes(((0,), (3,), 1), rows=())
        self.yes(((0, 1), (), 1), rows=[])
        self.no(((3,), (0, 1), 1), rows=())

    def test_how_often(self):
        for often in (0, -1, 4, THIRTY, True, "1", None, (1,), [1]):
            self.no(((1,), (0,), often))
        self.yes(((1,), (0,), 3))
        self.yes(((1,), (0,), THIRTY), world=((0, THIRTY, 0, 0), (0,)))
        # Each region of one has so many, not all together.
        self.no(((1, 2), (3,), 2))
        self.no(((0,), (1,), 1), world=((0, 3, 0, 0), (0,)))

    def test_groups(self):
        rows = ((0, 1, 1, 1, 1, 0),)
        self.yes(((0, 1), (2, 3), 1), rows=rows)
        for one in [(1, 0), (0, 0), (0, 4), (0, -1), (0, True), (False, 1), (0, "1"), [0, 1], (0, None), "01", (0, (1,)), 0, None,
                    {0: 1, 1: 1}, (0, nested(8)), (0, 1, 1), (0, 1, 2, 3, 4)]:
            self.no((one, (2, 3), 1), rows=rows)
            self.no(((2, 3), one, 1), rows=rows)
        for one, other in [((0, 1), (1, 2)), ((0,), (0,)), ((0, 1, 2), (2, 3)), ((0, 1), (0, 1))]:
            self.no((one, other, 1), rows=rows)

    def test_anything(self):
        for thing in [*no_texts(), *no_wholes(), nested(16), ((0,), (1,)), ((0,), (1,), 1, 1), [(0,), (1,), 1], {0: 1}, "abc", (0, 1, 1),
                      ((nested(14),), (nested(14),), 1), (None, None, None)]:
            self.no(thing)

    def test_each_one_of_small_groups(self):
        maker = Maker(90)
        for _ in range(10):
            rows = tuple(maker.row(5, 2) for _ in range(maker.whole(0, 2)))
            world = (tuple(maker.whole(0, 2) for _ in range(4)), (1,))
            for one, other in itertools.product(groups(4), repeat=2):
                for often in (1, 2):
                    alike = all(sum(row[1 + region] for region in one) == sum(row[1 + region] for region in other) for row in rows)
                    told = (bool(one) and not set(one) & set(other) and len(one) >= len(other) and alike
                            and all(world[0][region] >= often for region in one))
                    self.assertIs(can_exchange(TALK, rows, world, (one, other, often)), told)


class Exchanged(unittest.TestCase):
    def test_told(self):
        self.assertEqual(exchanged(TALK, ROWS, WORLD, [((1,), (0,), 2)]), ((4, 1, 1, 1), (4,)))
        self.assertEqual(exchanged(TALK, ROWS, WORLD, [((1, 2), (3,), 1)]), ((2, 2, 0, 2), (4,)))
        self.assertEqual(exchanged(TALK, ROWS, WORLD, [((1, 2), (3,), 1), ((0,), (1,), 2)]), ((0, 4, 0, 2), (4,)))
        self.assertEqual(exchanged(TALK, ROWS, WORLD, []), WORLD)
        self.assertEqual(exchanged(exchanges=[((1,), (0,), 2)], world=WORLD, rows=ROWS, talk=TALK), ((4, 1, 1, 1), (4,)))

    def test_one_behind_the_other(self):
        # The second can be only behind the first.
        first, second = ((1,), (0,), 3), ((0,), (1,), 5)
        self.assertEqual(exchanged(TALK, ROWS, WORLD, [first, second]), ((0, 5, 1, 1), (4,)))
        self.assertIs(refused(self, NoExchange, exchanged, TALK, ROWS, WORLD, [second, first]).exchange, second)
        self.assertIs(refused(self, NoExchange, exchanged, TALK, ROWS, WORLD, [first, first]).exchange, first)

    def test_the_first_that_can_not_be(self):
        can = ((1,), (0,), 1)
        for thing in [*no_texts(), *no_wholes(), ((0,), (2,), 1), [(1,), (0,), 1], ((1,), (0,), 0), nested(15)]:
            for exchanges in ([thing], [can, thing], [thing, can], [can, thing, "another"]):
                self.assertIs(refused(self, NoExchange, exchanged, TALK, ROWS, WORLD, exchanges).exchange, thing)

    def test_what_stays(self):
        maker = Maker(91)
        many = 0
        for _ in range(60):
            talk = Talk(NAMES[:maker.whole(1, 3)], NUMBERS[:maker.whole(0, 2)], most=10 ** 31)
            rows = tuple(maker.row(len(talk), 1) for _ in range(maker.whole(0, 2)))
            counts = tuple(maker.among(0, maker.whole(1, 3), THIRTY) for _ in range(talk.regions()))
            world = (counts, (3,) * len(talk.numbers()))
            for one, other in itertools.product(groups(talk.regions())[:40], repeat=2):
                exchange = (one, other, maker.among(1, 2, THIRTY))
                if can_exchange(talk, rows, world, exchange):
                    behind = exchanged(talk, rows, world, [exchange])
                    many += 1
                    self.assertEqual([row_worth(row, sum(world, ())) for row in rows], [row_worth(row, sum(behind, ())) for row in rows])
                    self.assertLessEqual(sum(behind[0]), sum(world[0]))
                    self.assertEqual(behind[1], world[1])
                    self.assertTrue(is_world(talk, behind))
        self.assertGreater(many, 300)

    def test_what_is_handed_in_stays(self):
        rows, exchanges = [list(row) for row in ROWS], [((1,), (0,), 2), ((1,), (0,), 1)]
        given = copy.deepcopy((rows, exchanges))
        self.assertEqual(exchanged(TALK, rows, WORLD, exchanges), exchanged(TALK, rows, WORLD, exchanges))
        self.assertEqual((rows, exchanges), given)


if __name__ == "__main__":
    unittest.main()
