import copy
import itertools
import unittest

from countfold.cases import cases_many, cases_of, holds_in
from countfold.systems import greatest_worth, least_worth, system_of, values_of, width_of
from countfold.talks import Talk
from countfold.worlds import world_at, worlds_many
from tests import adding, plainly
from tests.makers import NAMES, NUMBERS, Maker
from tests.things import THIRTY

TALK = Talk(("a",), ("n",), most=5)
BOUNDS = (("least", (5, -1, -1, 0)), ("least", (5, 0, 0, -1)))


class Worths(unittest.TestCase):
    def test_against_all_worlds(self):
        maker = Maker(5)
        for sets, numbers, most in [(0, 0, 3), (0, 1, 4), (0, 2, 3), (1, 0, 4), (1, 1, 3), (2, 0, 3), (2, 1, 2), (3, 0, 2)]:
            talk = Talk(NAMES[:sets], NUMBERS[:numbers], most=most)
            worlds = plainly.all_worlds(talk)
            for _ in range(30):
                row = maker.row(len(talk), maker.among(1, 5, THIRTY))
                worths = [adding.worth(row, counts + values) for counts, values in worlds]
                self.assertEqual(least_worth(talk, row), min(worths))
                self.assertEqual(greatest_worth(talk, list(row)), max(worths))
                self.assertEqual(least_worth(talk, list(row)), min(worths))

    def test_told(self):
        talk = Talk(("a",), ("m", "n"), most=10)
        self.assertEqual(least_worth(talk, (3, 2, 1, 4, -5)), 3 - 50)
        self.assertEqual(greatest_worth(talk, (3, 2, 1, 4, -5)), 3 + 20 + 40)
        self.assertEqual(least_worth(talk, (3, -2, -7, -4, -5)), 3 - 70 - 40 - 50)
        self.assertEqual(greatest_worth(talk, (3, -2, -7, -4, -5)), 3)
        self.assertEqual(least_worth(row=(-3, 0, 0, 0, 0), talk=talk), -3)
        self.assertEqual(greatest_worth(row=(-3, 0, 0, 0, 0), talk=talk), -3)

    def test_a_most_of_thirty_figures(self):
        talk = Talk(NAMES, NUMBERS, most=THIRTY)
        row = (1, *range(-4, 4), THIRTY, -THIRTY)
        self.assertEqual(least_worth(talk, row), 1 - 4 * THIRTY - THIRTY ** 2)
        self.assertEqual(greatest_worth(talk, row), 1 + 3 * THIRTY + THIRTY ** 2)


class SystemOf(unittest.TestCase):
    def test_without_pieces(self):
        self.assertEqual(system_of(TALK, ()), BOUNDS)
        self.assertEqual(width_of(TALK, ()), 3)
        self.assertEqual(system_of(Talk(), ()), (("least", (12, -1)),))
        self.assertEqual(system_of(Talk(("a", "b"), ("m", "n"), most=7), ()),
                         (("least", (7, -1, -1, -1, -1, 0, 0)), ("least", (7, 0, 0, 0, 0, -1, 0)),
                          ("least", (7, 0, 0, 0, 0, 0, -1))))
        self.assertEqual(system_of(case=(), talk=Talk((), ("n",), most=1)), (("least", (1, -1, 0)), ("least", (1, 0, -1))))

    def test_least_and_nought_as_they_are(self):
        case = (("nought", (1, 2, 3, 4)), ("least", (-5, 6, 0, 7)), ("nought", (0, 0, 0, 0)))
        self.assertEqual(system_of(TALK, case), BOUNDS + case)
        self.assertEqual(width_of(TALK, case), 3)

    def test_parts(self):
        # The row is worth -11 at least, so that 3 times 4 is added.
        case = (("parts", 3, (-1, 1, -2, 0)),)
        self.assertEqual(width_of(TALK, case), 4)
        self.assertEqual(system_of(TALK, case),
                         (("least", (5, -1, -1, 0, 0)), ("least", (5, 0, 0, -1, 0)), ("nought", (11, 1, -2, 0, -3))))

    def test_unparts(self):
        case = (("unparts", 3, (-1, 1, -2, 0)),)
        self.assertEqual(width_of(case=case, talk=TALK), 5)
        self.assertEqual(system_of(TALK, case),
                         (("least", (5, -1, -1, 0, 0, 0)), ("least", (5, 0, 0, -1, 0, 0)),
                          ("nought", (11, 1, -2, 0, -3, -1)), ("least", (-1, 0, 0, 0, 0, 1)), ("least", (2, 0, 0, 0, 0, -1))))

    def test_more_of_them_in_the_case_s_order(self):
        talk = Talk((), ("n",), most=4)
        least = ("least", (1, 1, -1))
        case = (("unparts", 2, (0, 0, 1)), least, ("parts", 5, (-9, 0, 1)), ("unparts", 4, (2, 0, -1)))
        self.assertEqual(width_of(talk, case), 2 + 2 + 1 + 2)
        self.assertEqual(system_of(talk, case),
                         (("least", (4, -1, 0, 0, 0, 0, 0, 0)), ("least", (4, 0, -1, 0, 0, 0, 0, 0)),
                          ("nought", (0, 0, 1, -2, -1, 0, 0, 0)), ("least", (-1, 0, 0, 0, 1, 0, 0, 0)),
                          ("least", (1, 0, 0, 0, -1, 0, 0, 0)), ("least", (1, 1, -1, 0, 0, 0, 0, 0)),
                          ("nought", (1, 0, 1, 0, 0, -5, 0, 0)),
                          ("nought", (6, 0, -1, 0, 0, 0, -4, -1)), ("least", (-1, 0, 0, 0, 0, 0, 0, 1)),
                          ("least", (3, 0, 0, 0, 0, 0, 0, -1))))

    def test_the_least_that_does_is_added(self):
        talk = Talk((), ("n",), most=4)
        for constant in range(-12, 13):
            for coef in (-3, 0, 2):
                for g in (2, 3, 10):
                    lifted = system_of(talk, (("parts", g, (constant, 0, coef)),))[2][1][0]
                    often = (lifted - constant) // g
                    self.assertEqual(lifted, constant + g * often)
                    least = lambda k: min(constant + coef * n for n in range(5)) + g * k
                    self.assertTrue(often >= 0 and least(often) >= 0)
                    self.assertTrue(often == 0 or least(often - 1) < 0)

    def test_kinds(self):
        told = system_of(TALK, (("parts", 2, (1, 1, 1, 1)),))
        self.assertEqual([type(thing) for thing in [told, *told, *[row for _, row in told]]], [tuple] * 7)


class ValuesOf(unittest.TestCase):
    def test_told(self):
        world = ((2, 1), (5,))
        self.assertEqual(values_of(TALK, world, ()), (2, 1, 5))
        # -1 + 2 - 2 is -1; with 12 it is 11: 3 times 3 and 2.
        self.assertEqual(values_of(TALK, world, (("unparts", 3, (-1, 1, -2, 0)),)), (2, 1, 5, 3, 2))
        self.assertIsNone(values_of(TALK, world, (("parts", 3, (-1, 1, -2, 0)),)))
        self.assertEqual(values_of(TALK, world, (("parts", 4, (-3, 1, -2, 0)), ("least", (0, 0, 0, 1)))), None)
        self.assertEqual(values_of(TALK, world, (("parts", 3, (-3, 1, -2, 0)), ("least", (0, 0, 0, 1)))), (2, 1, 5, 4))
        self.assertIsNone(values_of(TALK, world, (("parts", 3, (-3, 1, -2, 0)), ("nought", (0, 0, 0, 1)))))
        self.assertEqual(values_of(case=(("least", (0, 0, 0, 0)),), world=world, talk=TALK), (2, 1, 5))

    def test_they_fit_just_where_the_pieces_are_true(self):
        maker = Maker(6)
        for talk in [Talk(("a",), ("n",), most=3), Talk(("a", "b"), most=3), Talk((), ("m", "n"), most=4)]:
            for _ in range(40):
                sayings = maker.sayings(talk, maker.whole(0, 3), 3)
                if cases_many(sayings) > 32:
                    continue
                for case in cases_of(talk, sayings):
                    system = system_of(talk, case)
                    for number in range(0, worlds_many(talk), 5):
                        world = world_at(talk, number)
                        values = values_of(talk, world, case)
                        self.assertIs(values is not None, all(holds_in(talk, world, piece) for piece in case))
                        if values is not None:
                            self.assertTrue(adding.are_wholes(values) and len(values) == width_of(talk, case))
                            self.assertEqual(values[:len(talk)], world[0] + world[1])
                            self.assertTrue(adding.fit(system, values))

    def test_nothing_else_fits(self):
        talk = Talk((), ("n",), most=3)
        for case in [(("unparts", 2, (1, 0, 3)),), (("parts", 3, (-4, -1, 2)),), (("unparts", 3, (0, 1, -1)), ("least", (-2, 1, 1)))]:
            system = system_of(talk, case)
            fitting = {values[:2] for values in itertools.product(range(7), repeat=width_of(talk, case))
                       if adding.fit(system, values)}
            true = {(counts[0], values[0]) for counts, values in plainly.all_worlds(talk)
                    if all(holds_in(talk, (counts, values), piece) for piece in case)}
            self.assertEqual(fitting, true)

    def test_of_thirty_figures(self):
        talk = Talk((), ("n",), most=THIRTY)
        case = (("parts", THIRTY - 1, (THIRTY, 0, -THIRTY)), ("unparts", THIRTY, (1, 5, THIRTY)))
        values = values_of(talk, ((3,), (1,)), case)
        self.assertTrue(adding.fit(system_of(talk, case), values))
        self.assertEqual(values[:2], (3, 1))
        self.assertIsNone(values_of(talk, ((3,), (2,)), case))


class StaysAsItWas(unittest.TestCase):
    def test_what_is_handed_in_and_the_answers(self):
        case = (("unparts", 3, (-1, 1, -2, 0)), ("least", (1, 1, 1, 1)))
        given, row, world = copy.deepcopy(case), [1, 2, -3, 4], ((2, 1), (5,))
        answers = [(system_of(TALK, given), width_of(TALK, given), values_of(TALK, world, given), least_worth(TALK, row),
                    greatest_worth(TALK, row)) for _ in range(2)]
        self.assertEqual(answers[0], answers[1])
        self.assertEqual((given, row, world), (case, [1, 2, -3, 4], ((2, 1), (5,))))


if __name__ == "__main__":
    unittest.main()
