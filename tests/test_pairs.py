import copy
import unittest

from countfold.cases import cases_of
from countfold.pairs import is_parted, pair_system
from countfold.parts import led, part_of, shared
from countfold.systems import system_of, values_of, width_of
from countfold.talks import Talk
from tests import adding, plainly
from tests.makers import NAMES, NUMBERS, Maker
from tests.test_prover import said
from tests.things import nested, no_texts, no_wholes

TALK = Talk(NAMES, NUMBERS, most=9)


def pair(ones, others, talk=TALK):
    """The parts and the first cases of ones and others."""
    one, other = part_of(talk, ones), part_of(talk, others)
    return one, cases_of(one, ones)[0], other, cases_of(other, others)[0]


def width_of_pair(one, case, other, other_case):
    return width_of(one, case) + width_of(other, other_case)


class PairSystem(unittest.TestCase):
    def test_told(self):
        found = pair(said("[2 | 1 #a + 1 n]"), said("[1 #(a & b) <= 3]"))
        # Not in a, in a, n, q; neither, a alone, b alone, both.
        self.assertEqual(pair_system(*found), (
            ("least", (9, -1, -1, 0, 0, 0, 0, 0, 0)), ("least", (9, 0, 0, -1, 0, 0, 0, 0, 0)), ("nought", (0, 0, 1, 1, -2, 0, 0, 0, 0)),
            ("least", (9, 0, 0, 0, 0, -1, -1, -1, -1)), ("least", (3, 0, 0, 0, 0, 0, 0, 0, -1)),
            ("nought", (0, 1, 0, 0, 0, -1, 0, -1, 0)), ("nought", (0, 0, 1, 0, 0, 0, -1, 0, -1))))

    def test_links_of_numbers_behind_those_of_regions(self):
        found = pair(said("[1 m <= 1 n]", "~[3 | 1 m]"), said("[1 n + 1 m = 7]"))
        self.assertEqual(pair_system(*found), (
            ("least", (9, -1, 0, 0, 0, 0, 0, 0, 0)), ("least", (9, 0, -1, 0, 0, 0, 0, 0, 0)), ("least", (9, 0, 0, -1, 0, 0, 0, 0, 0)),
            ("least", (0, 0, -1, 1, 0, 0, 0, 0, 0)), ("nought", (0, 0, 1, 0, -3, -1, 0, 0, 0)),
            ("least", (-1, 0, 0, 0, 0, 1, 0, 0, 0)), ("least", (2, 0, 0, 0, 0, -1, 0, 0, 0)),
            ("least", (9, 0, 0, 0, 0, 0, -1, 0, 0)), ("least", (9, 0, 0, 0, 0, 0, 0, -1, 0)), ("least", (9, 0, 0, 0, 0, 0, 0, 0, -1)),
            ("nought", (-7, 0, 0, 0, 0, 0, 0, 1, 1)), ("nought", (0, 1, 0, 0, 0, 0, -1, 0, 0)),
            ("nought", (0, 0, 1, 0, 0, 0, 0, -1, 0)), ("nought", (0, 0, 0, 1, 0, 0, 0, 0, -1))))

    def test_no_name_shared(self):
        self.assertEqual(pair_system(*pair((), ())), (("least", (9, -1, 0)), ("least", (9, 0, -1)), ("nought", (0, 1, -1))))
        one, case, other, other_case = pair(said("[a is {}]"), said("[1 n <= 0]"))
        self.assertEqual(pair_system(other_case=other_case, other=other, case=case, one=one)[-1], ("nought", (0, 1, 1, -1, 0)))

    def test_of_any_cases(self):
        maker = Maker(99)
        kinds = set()
        for _ in range(60):
            ones, others = [maker.sayings(Talk(NAMES[:maker.whole(0, 3)], NUMBERS[:maker.whole(0, 2)], most=9), maker.whole(0, 2), 3) if half else
                            tuple(maker.among(part, ("not", part)) for part in [("parts", 3, maker.sum(TALK))] * maker.whole(1, 3))
                            for half in (maker.whole(0, 1), maker.whole(0, 1))]
            one, case, other, other_case = pair(ones, others)
            kinds |= {piece[0] for piece in case + other_case}
            system = pair_system(one, case, other, other_case)
            first, second, both = system_of(one, case), system_of(other, other_case), shared(one, other)
            width, more = width_of(one, case), width_of(other, other_case)
            self.assertEqual(len(system), len(first) + len(second) + len(both))
            self.assertEqual(system[:len(first)], tuple((kind, (*row, *[0] * more)) for kind, row in first))
            self.assertEqual(system[len(first):len(first) + len(second)], tuple((kind, (row[0], *[0] * width, *row[1:])) for kind, row in second))
            self.assertEqual({(kind, len(row)) for kind, row in system}, {(kind, 1 + width + more) for kind, _ in system})
        self.assertEqual(kinds, {"least", "nought", "parts", "unparts"})

    def test_it_fits_at_the_two_worlds_that_a_world_is_led_to(self):
        maker = Maker(100)
        talk = Talk(("a", "b"), ("n",), most=3)
        for _ in range(30):
            ones, others = maker.sayings(talk, 1, 2), maker.sayings(Talk(("b",), ("n",), most=3), 1, 2)
            one, case, other, other_case = pair(ones, others, talk)
            for world in plainly.all_worlds(talk)[::5]:
                values = values_of(one, led(talk, world, one), case)
                other_values = values_of(other, led(talk, world, other), other_case)
                if values is not None and other_values is not None:
                    self.assertTrue(adding.fit(pair_system(one, case, other, other_case), values + other_values))


class IsParted(unittest.TestCase):
    # The size of a is 2 n and, a shared too, 2 m and 1 more.
    PAIR = pair(said("[1 #a = 2 n]"), said("[1 #a = 2 m + 1]"))

    def yes(self, paper):
        self.assertIs(is_parted(*self.PAIR, paper), True, paper)
        self.assertTrue(adding.is_paper(pair_system(*self.PAIR), paper, 6))

    def no(self, *things):
        for thing in things:
            self.assertIs(is_parted(*self.PAIR, thing), False, thing)

    def test_a_rest(self):
        self.assertEqual(len(pair_system(*self.PAIR)), 8)
        # The rows: things, n, a is 2 n; things, m, a is 2 m + 1; not a, a. The unknowns: not a, a, n; not a, a, m.
        paper = (("rest", (0, 0, 1, 0, 0, -1, 0, -1), 2),)
        self.yes(paper)
        for at in range(8):
            weights = paper[0][1]
            self.no((("rest", (*weights[:at], weights[at] + 1, *weights[at + 1:]), 2),), (("rest", (*weights[:at], weights[at] + 1, *weights[at + 1:]), 3),))
        self.no((("rest", paper[0][1], 3),), (("rest", paper[0][1], 1),), (("rest", paper[0][1][:-1], 2),), paper[0], list(paper), ())

    def test_splits(self):
        found = pair(said("[1 n + 1 m <= 2]", "[3 <= 2 n + 2 m]"), said("[1 n = 0]", "[1 m = 0]"))
        # m, n under all things, of either side; the first clash at once.
        system = pair_system(*found)
        width = width_of_pair(*found)
        self.assertEqual((len(system), width), (13, 6))

        def paper(row):
            return (("split", row, 1, 2), *[("clash", (0, 0, 0, 0, 1, 0, 0, 0, -2, -2, 0, -2, -2, 0))] * 2)
        # 3 is 2 n and 2 m or less, these are 0.
        for row in [(0, 0, 1, 2, 0, 0, 0), (5, 1, 0, 0, 0, 0, 0), (0, 0, 0, 0, 1, 0, -7), (3, 0, 0, 0, 0, 0, 1), (0, 0, 0, 0, 0, 0, 0), (-4, 0, 0, 0, 0, 0, 0)]:
            self.assertTrue(adding.is_paper(system, paper(row), width))
            self.assertIs(is_parted(*found, paper(row)), True, row)
        for row in [(0, 0, 1, 2, 0, 0, 1), (0, 1, 0, 0, -1, 0, 0), (5, 0, 0, 1, 1, 0, 0)]:
            self.assertTrue(adding.is_paper(system, paper(row), width))
            self.assertIs(is_parted(*found, paper(row)), False, row)
        for row in [(0, 0, 1, 2, 0, 0), (0, 0, 1, 2, 0, 0, 0, 0), [0, 0, 1, 2, 0, 0, 0], (0, 0, 1, True, 0, 0, 0), "0120000", None, ()]:
            self.assertIs(is_parted(*found, paper(row)), False, row)

    def test_a_split_of_both_sides_below_others(self):
        found = pair(said("[1 n <= 0]", "[1 <= 1 n]"), said("[1 n <= 3]"))
        many = len(pair_system(*found))
        clash = (0, 0, 1, 1, *[0] * (many - 4))

        def paper(row):
            return (("split", (0, 0, 1, 0, 0), 1, 2), ("clash", clash + (0,)), ("split", row, 3, 4), ("clash", clash + (0, 0)), ("clash", clash + (0, 0)))
        self.assertIs(is_parted(*found, paper((0, 0, 0, 0, 1))), True)
        self.assertIs(is_parted(*found, paper((0, 1, 0, 0, 1))), False)

    def test_anything(self):
        self.no(*no_texts(), *no_wholes(), nested(16), (nested(15),), (("split", None, 1, 2),), (("clash", nested(12)),), (("clash",),))

    def test_what_is_handed_in_stays(self):
        paper = (("rest", (0, 0, 1, 0, 0, -1, 0, -1), 2),)
        given = copy.deepcopy(self.PAIR[1]), copy.deepcopy(self.PAIR[3]), copy.deepcopy(paper)
        self.assertEqual(pair_system(*self.PAIR), pair_system(*self.PAIR))
        one, case, other, other_case = self.PAIR
        self.assertIs(is_parted(thing=paper, other_case=other_case, other=other, case=case, one=one), True)
        self.assertEqual((case, other_case, paper), given)


if __name__ == "__main__":
    unittest.main()
