import copy
import itertools
import unittest

from countfold.cases import case_at, cases_many, cases_of
from countfold.errors import NoWorld, TooMany
from countfold.exchanges import can_exchange, exchanged
from countfold.few import few_of, few_world, is_few, rows_at
from countfold.reading import read_saying
from countfold.talks import Talk
from countfold.truth import is_true
from tests import plainly
from tests.makers import NAMES, NUMBERS, Maker
from tests.test_prover import many_cases, said
from tests.things import THIRTY, refused

TALK = Talk(("a", "b"), ("n",), most=9)


def few(rows, world):
    """Whether no two unlike groups of regions with things have one column."""
    full = [region for region, count in enumerate(world[0]) if count]
    groups = [group for many in range(len(full) + 1) for group in itertools.combinations(full, many)]
    columns = [tuple(sum(row[1 + region] for region in group) for row in rows) for group in groups]
    return len(set(columns)) == len(columns)


class IsFew(unittest.TestCase):
    def test_told(self):
        rows = ((0, 1, 1, 0, 2, 0),)
        for counts, told in [((0, 0, 0, 0), True), ((1, 0, 0, 0), True), ((1, 1, 0, 0), False), ((1, 0, 1, 0), False), ((0, 0, 9, 0), False),
                             ((1, 0, 0, 1), True), ((0, 5, 0, 4), True), ((1, 1, 0, 1), False)]:
            self.assertIs(is_few(TALK, rows, (counts, (0,))), told, counts)
            self.assertIs(is_few(TALK, [list(row) for row in rows], (counts, (0,))), told)
        # 1, 2 and 4 are told apart, however they are added; 1, 2 and 3 are not.
        self.assertIs(is_few(TALK, ((0, 1, 2, 4, 8, 0),), ((1, 1, 1, 1), (0,))), True)
        self.assertIs(is_few(TALK, ((0, 1, 2, 3, 8, 0),), ((1, 1, 1, 1), (0,))), False)
        self.assertIs(is_few(TALK, ((0, 1, 2, 3, 8, 0), (0, 0, 0, 1, 0, 0)), ((1, 1, 1, 1), (0,))), True)
        self.assertIs(is_few(world=((1, 1, 1, 1), (0,)), rows=((0, 1, 2, 4, 8, 0),), talk=TALK), True)

    def test_without_rows(self):
        self.assertIs(is_few(TALK, (), ((0, 0, 0, 0), (9,))), True)
        self.assertIs(is_few(TALK, [], ((0, 1, 0, 0), (0,))), False)

    def test_against_all_pairs_of_groups(self):
        maker = Maker(92)
        told = []
        for talk in (Talk(most=2), Talk(("a",), ("n",), most=2), Talk(("a", "b"), most=3), Talk(NAMES, most=2)):
            for _ in range(8):
                rows = tuple(maker.row(len(talk), maker.among(1, 3, 9)) for _ in range(maker.whole(0, 3)))
                for world in plainly.all_worlds(talk):
                    told.append(is_few(talk, rows, world))
                    self.assertIs(told[-1], few(rows, world))
        self.assertGreater(min(told.count(True), told.count(False)), 200)


class Ways(unittest.TestCase):
    def check(self, talk, rows, world, told):
        """What is told leads from the world to a few one."""
        self.assertIs(type(told), tuple)
        exchanges, end = told
        self.assertIs(type(exchanges), list)
        at = world
        for exchange in exchanges:
            one, other, often = exchange
            self.assertIs(can_exchange(talk, rows, at, exchange), True)
            self.assertTrue(all(at[0][region] > 0 for region in one + other))
            at = exchanged(talk, rows, at, [exchange])
            self.assertTrue(any(at[0][region] == 0 for region in one))
        self.assertEqual(at, end)
        self.assertTrue(few(rows, end))
        self.assertIs(is_few(talk, rows, end), True)
        self.assertEqual(is_few(talk, rows, world), exchanges == [])
        self.assertLessEqual(len(exchanges), talk.regions())
        full = [region for region, count in enumerate(end[0]) if count]
        product = 1
        for row in rows:
            product *= 1 + sum(abs(row[1 + region]) for region in full)
        self.assertLessEqual(2 ** len(full), product)


class FewOf(Ways):
    def test_told(self):
        rows = ((0, 1, 1, 0, 2, 0),)
        exchanges, world = few_of(TALK, rows, ((1, 2, 3, 0), (5,)))
        self.check(TALK, rows, ((1, 2, 3, 0), (5,)), (exchanges, world))
        self.assertIn(world, [((3, 0, 0, 0), (5,)), ((0, 3, 0, 0), (5,))])
        self.assertEqual(few_of(TALK, rows, ((1, 0, 0, 1), (5,))), ([], ((1, 0, 0, 1), (5,))))
        self.assertEqual(few_of(world=((1, 0, 0, 1), (5,)), rows=rows, talk=TALK), ([], ((1, 0, 0, 1), (5,))))
        self.assertEqual(few_of(TALK, (), ((1, 2, 0, 1), (5,)))[1], ((0, 0, 0, 0), (5,)))

    def test_worlds_of_small_talks(self):
        maker = Maker(93)
        for talk in (Talk(most=3), Talk(("a",), ("n",), most=2), Talk(("a", "b"), most=3), Talk(NAMES, most=2)):
            for _ in range(6):
                rows = [maker.row(len(talk), maker.among(1, 2, 9)) for _ in range(maker.whole(0, 3))]
                for world in plainly.all_worlds(talk):
                    self.check(talk, rows, world, few_of(talk, rows, world))

    def test_of_great_talks(self):
        maker = Maker(94)
        ways = 0
        for _ in range(150):
            talk = Talk(NAMES[:maker.whole(1, 3)], NUMBERS[:maker.whole(0, 2)], most=THIRTY)
            rows = tuple(maker.row(len(talk), maker.among(1, 2, 5, THIRTY)) for _ in range(maker.whole(0, 4)))
            counts = tuple(maker.among(0, maker.whole(0, 9), maker.whole(0, THIRTY // 8)) for _ in range(talk.regions()))
            world = (counts, tuple(maker.whole(0, THIRTY) for _ in talk.numbers()))
            told = few_of(talk, rows, world)
            self.check(talk, rows, world, told)
            self.assertEqual(few_of(talk, rows, world), told)
            ways += len(told[0])
        self.assertGreater(ways, 100)

    def test_the_list_is_new_and_rows_stay(self):
        rows = [[0, 1, 1, 1, 1, 0]]
        given = copy.deepcopy(rows)
        told = few_of(TALK, rows, ((1, 1, 1, 1), (0,)))
        few_of(TALK, rows, ((1, 1, 1, 1), (0,)))[0].clear()
        self.assertEqual(few_of(TALK, rows, ((1, 1, 1, 1), (0,))), told)
        self.assertEqual(rows, given)


class RowsAt(unittest.TestCase):
    def test_the_first_case_that_is_true(self):
        sayings = said("([a in b] or [2 | 1 #a])", "~[3 | 1 n]")
        # a alone, n.
        self.assertEqual(rows_at(TALK, sayings, ((0, 0, 1, 1), (4,))), ((0, 0, 1, 0, 0, 0), (0, 0, 0, 0, 0, 1)))
        self.assertEqual(rows_at(TALK, sayings, ((0, 1, 1, 1), (4,))), ((0, 0, 1, 0, 1, 0), (0, 0, 0, 0, 0, 1)))
        self.assertEqual(rows_at(TALK, (), ((0, 1, 1, 1), (4,))), ())
        self.assertEqual(rows_at(world=((0, 0, 1, 1), (4,)), sayings=sayings[1:], talk=TALK), ((0, 0, 0, 0, 0, 1),))
        self.assertEqual(rows_at(TALK, said("[a is b]", "[a is b]"), ((1, 0, 0, 1), (4,))), ((0, 0, 1, 1, 0, 0),) * 2)

    def test_it_is_of_the_pieces(self):
        maker = Maker(95)
        for _ in range(60):
            talk = Talk(("a", "b"), ("n",), most=3)
            sayings = maker.sayings(talk, maker.whole(0, 2), 3)
            for world in plainly.all_worlds(talk)[::7]:
                if all(plainly.truth(talk, world, saying) for saying in sayings):
                    case = cases_of(talk, sayings)[case_at(talk, sayings, world)]
                    self.assertEqual(rows_at(talk, sayings, world), tuple(piece[-1] for piece in case))


class Refused(unittest.TestCase):
    def test_no_world_where_not_all_are_true(self):
        for call in (rows_at, few_world):
            refused(self, NoWorld, call, TALK, said("[a in b]"), ((0, 1, 0, 0), (0,)))
            refused(self, NoWorld, call, TALK, said("[a is a]", "[a in b]"), ((0, 1, 0, 0), (0,)))
            call(TALK, said("[a is a]", "[a in b]"), ((0, 0, 1, 0), (0,)))

    def test_too_many_goes_first(self):
        for call in (rows_at, few_world):
            for world in [((0, 0, 0, 0), (0,)), ((0, 1, 0, 0), (0,))]:
                self.assertEqual(refused(self, TooMany, call, TALK, (many_cases(6),), world).many, 64)
            call(TALK, (many_cases(5),), ((0, 1, 0, 0), (0,)))
            refused(self, NoWorld, call, TALK, (many_cases(5),), ((0, 0, 0, 0), (0,)))


class FewWorld(Ways):
    def test_told(self):
        sayings = said("[2 | 1 #a]", "[1 #b <= 1 n]")
        world = ((1, 3, 1, 1), (4,))
        self.check(TALK, rows_at(TALK, sayings, world), world, few_world(TALK, sayings, world))
        self.assertEqual(few_world(world=world, sayings=sayings, talk=TALK), few_world(TALK, sayings, world))
        self.assertEqual(few_world(TALK, (), world)[1], ((0, 0, 0, 0), (4,)))

    def test_all_are_true_behind(self):
        maker = Maker(96)
        many = 0
        for talk in (Talk(("a",), ("n",), most=4), Talk(("a", "b"), ("n",), most=3), Talk(NAMES, most=3)):
            for _ in range(25):
                sayings = maker.sayings(talk, maker.whole(1, 3), 3)
                worlds = [world for world in plainly.all_worlds(talk) if all(plainly.truth(talk, world, saying) for saying in sayings)]
                if cases_many(sayings) > 32:
                    continue
                for world in worlds[::9]:
                    told = few_world(talk, sayings, world)
                    self.check(talk, rows_at(talk, sayings, world), world, told)
                    self.assertEqual(told, few_of(talk, rows_at(talk, sayings, world), world))
                    self.assertTrue(all(plainly.truth(talk, told[1], saying) for saying in sayings))
                    many += told[0] != []
        self.assertGreater(many, 100)

    def test_of_thirty_figures(self):
        talk = Talk(NAMES, NUMBERS, most=THIRTY)
        sayings = (read_saying("[7 | 3 #a + 2 #(b - c) + 1 m]"), read_saying("(~[1 #a <= 2 #b + 1 n] or [5 | 1 #{*}])"))
        counts = (10 ** 28, 10 ** 29 + 3, 5 * 10 ** 28, 77, 10 ** 20, 1, 0, 4)
        total = 3 * (10 ** 29 + 3 + 77 + 1 + 4) + 2 * (5 * 10 ** 28 + 77) + THIRTY
        world = ((counts[0] - sum(counts) % 5, *counts[1:]), (THIRTY - total % 7, 10 ** 29))
        self.assertTrue(all(is_true(talk, world, saying) for saying in sayings))
        told = few_world(talk, sayings, world)
        self.check(talk, rows_at(talk, sayings, world), world, told)
        self.assertTrue(all(is_true(talk, told[1], saying) for saying in sayings))


if __name__ == "__main__":
    unittest.main()
