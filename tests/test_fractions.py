import copy
import unittest

from countfold.fractions import fitted, is_clash, is_point
from tests import adding
from tests.makers import Maker
from tests.things import THIRTY, nested, no_texts, no_wholes

# x is 1 to 3, y is x and 1.
SYSTEM = (("least", (-1, 1, 0)), ("least", (3, -1, 0)), ("nought", (1, 1, -1)))
# x is 2 or more, y is x or more, and they are 3 together.
CLASHING = (("least", (-2, 1, 0)), ("nought", (-3, 1, 1)), ("least", (0, -1, 1)))


class Fitted(unittest.TestCase):
    def check(self, system, width):
        answer = fitted(system, width=width)
        if answer[0] == "point":
            _, numerators, d = answer
            self.assertTrue(adding.are_wholes(numerators) and len(numerators) == width)
            self.assertTrue(type(d) is int and d >= 1 and adding.fit_over(system, numerators, d), (system, answer))
            self.assertIs(is_point(system, (numerators, d), width=width), True)
        else:
            self.assertEqual(len(answer), 2)
            self.assertTrue(adding.is_clash(system, answer[1], width), (system, answer))
            self.assertIs(is_clash(system, answer[1], width=width), True)
        return answer[0]

    def test_told(self):
        self.assertEqual(self.check(SYSTEM, 2), "point")
        self.assertEqual(self.check(CLASHING, 2), "clash")
        self.assertEqual(fitted((("nought", (-1, 2)),), width=1), ("point", (1,), 2))
        self.assertEqual(fitted(system=(("nought", (-6, 4)), ("least", (0, 1))), width=1), ("point", (3,), 2))
        self.assertEqual(self.check((("nought", (1, 2)),), 1), "clash")
        self.assertEqual(self.check((("least", (-1, -1)),), 1), "clash")
        self.assertEqual(self.check((("least", (-1, 1)), ("least", (0, -1))), 1), "clash")

    def test_no_rows(self):
        for width in range(13):
            self.assertEqual(self.check((), width), "point")

    def test_width_0(self):
        for kind, constant, word in [("least", 0, "point"), ("least", 1, "point"), ("least", -1, "clash"),
                                     ("nought", 0, "point"), ("nought", 1, "clash"), ("nought", -1, "clash")]:
            self.assertEqual(self.check(((kind, (constant,)),), 0), word)
            self.assertEqual(self.check((("least", (5,)), (kind, (constant,)), ("nought", (0,))), 0), word)

    def test_noughts_that_say_the_same(self):
        same = [("nought", (-2, 1, 1)), ("nought", (4, -2, -2)), ("nought", (0, 0, 0))]
        self.assertEqual(self.check(tuple(same), 2), "point")
        self.assertEqual(self.check((*same, ("nought", (-3, 1, 1))), 2), "clash")
        self.assertEqual(self.check((*same, ("nought", (3, 0, 0))), 2), "clash")
        self.assertEqual(self.check((*same, ("least", (1, -1, 0)), ("least", (0, 0, -1))), 2), "clash")

    def test_rows_as_lists(self):
        for system in (SYSTEM, CLASHING):
            self.assertEqual(fitted(tuple((kind, list(row)) for kind, row in system), width=2), fitted(system, width=2))

    def test_made_ones(self):
        maker = Maker(10)
        words = []
        for _ in range(600):
            width = maker.whole(0, 12)
            words.append(self.check(maker.system(width, maker.whole(0, 20), maker.among(1, 3, 9, THIRTY)), width))
            values = [maker.whole(0, 9) for _ in range(width)]
            system = maker.system_at(values, maker.whole(0, 20), maker.among(1, 3, 9, THIRTY), slack=2)
            self.assertEqual(self.check(system, width), "point")
        self.assertGreater(min(words.count("point"), words.count("clash")), 50)

    def test_twenty_rows_and_twelve_unknowns(self):
        maker = Maker(11)
        for _ in range(40):
            self.check(maker.system(12, 20, maker.among(1, 5, THIRTY)), 12)
            ring = [("least", (-1, *[int(at == (up + 1) % 12) - int(at == up) for at in range(12)])) for up in range(12)]
            self.assertEqual(self.check(tuple(ring), 12), "clash")
            self.assertEqual(self.check(tuple(ring[:11]) + maker.system(12, 9, 0), 12), "point")

    def test_many_degenerate_rows(self):
        rows = [("least", (0, *[sign if at in (one, other) else 0 for at, sign in enumerate([1, -1] * 6)]))
                for one in range(6) for other in range(6, 9)]
        self.check(tuple(rows), 12)
        self.check((*rows, ("least", (-1, *[-1] * 12))), 12)
        self.check((*rows, ("least", (-1, *[1] * 12)), ("least", (1, *[-1] * 12))), 12)

    def test_what_is_told_may_be_handed_on(self):
        system = (("nought", (-10 ** 5000, 10 ** 4000, 3)), ("least", (-10 ** 3000, 0, 1)))
        self.assertEqual(self.check(system, 2), "point")
        self.assertEqual(self.check((*system, ("least", (10 ** 2999, 0, -1))), 2), "clash")


class IsPoint(unittest.TestCase):
    def test_points(self):
        for thing in [((1, 2), 1), ((3, 4), 1), ((2, 4), 2), ((5, 7), 2), ((5, 8), 3), ((3 * THIRTY, 4 * THIRTY), THIRTY)]:
            self.assertIs(is_point(SYSTEM, thing, width=2), True, thing)
        self.assertIs(is_point(thing=((), 7), system=(), width=0), True)
        self.assertIs(is_point(tuple((kind, list(row)) for kind, row in SYSTEM), ((2, 3), 1), width=2), True)

    def test_one_step_off(self):
        for thing in [((0, 1), 1), ((4, 5), 1), ((1, 1), 1), ((1, 3), 1), ((3, 5), 3), ((1, 3), 2), ((7, 9), 2),
                      ((1, 2), 0), ((1, 2), -1), ((-1, -2), -1), ((1, 2), 2), ((-1, 0), 1), ((1, 2, 0), 1), ((1,), 1),
                      ((), 1), ((1, 2), True), ((True, 2), 1), ([1, 2], 1), [(1, 2), 1], ((1, 2),), ((1, 2), 1, 1),
                      (1, (1, 2)), ("point", (1, 2), 1), ((1, 2), "1"), ((1, 2), None), (("1", "2"), 1), ({1: 2}, 1),
                      ((1, None), 1), ((1, (2,)), 1), (1, 2, 1)]:
            self.assertIs(is_point(SYSTEM, thing, width=2), False, thing)
        self.assertIs(is_point((), ((-1,), 1), width=1), False)
        self.assertIs(is_point((), ((0,), 0), width=1), False)
        self.assertIs(is_point((("nought", (0, 1)),), ((0,), 1), width=1), True)

    def test_of_anything(self):
        for thing in [*no_texts(), *no_wholes(), nested(16), (nested(14), 1), ((1, 2), nested(14))]:
            self.assertIs(is_point(SYSTEM, thing, width=2), False)
            self.assertIs(is_point((), thing, width=0), False)


class IsClash(unittest.TestCase):
    def test_clashes(self):
        # 2 (x - 2) + (3 - x - y) + (y - x) is -1.
        for thing in [(2, -1, 1), (4, -2, 2), (3, -2, 2), (2 * THIRTY, -THIRTY, THIRTY), (2, -1, 0)]:
            worths = adding.is_clash(CLASHING, thing, 2)
            self.assertIs(is_clash(CLASHING, thing, width=2), worths, thing)
        self.assertIs(is_clash(CLASHING, (2, -1, 1), width=2), True)
        self.assertIs(is_clash(thing=(1,), system=(("nought", (-1, 0)),), width=1), True)
        self.assertIs(is_clash((("nought", (1, 0)),), (-1,), width=1), True)
        self.assertIs(is_clash((("nought", [1, 2]),), (-1,), width=1), True)

    def test_one_step_off(self):
        for thing in [(2, -1, 2), (1, -1, 1), (3, -1, 1), (2, 1, 1), (2, -1, -1), (-2, 1, -1), (0, 0, 0), (2, -1), (2, -1, 1, 0),
                      (), [2, -1, 1], (2, -1, True), (2, -1, "1"), (2, -1, None), (2, -1, (1,)), ((2, -1, 1),),
                      ("clash", (2, -1, 1)), {0: 2, 1: -1, 2: 1}, "211"]:
            self.assertIs(is_clash(CLASHING, thing, width=2), False, thing)
        # The constant is to be below 0, a coef is not to be above 0.
        self.assertIs(is_clash((("least", (0, -1)),), (1,), width=1), False)
        self.assertIs(is_clash((("least", (-1, -1)),), (1,), width=1), True)
        self.assertIs(is_clash((("least", (-1, 0)),), (1,), width=1), True)
        self.assertIs(is_clash((("least", (-1, 1)),), (1,), width=1), False)
        self.assertIs(is_clash((("least", (1, 0)),), (-1,), width=1), False)
        self.assertIs(is_clash((), (), width=1), False)

    def test_of_anything(self):
        for thing in [*no_texts(), *no_wholes(), nested(16), (nested(14), 1, 1)]:
            self.assertIs(is_clash(CLASHING, thing, width=2), False)
            self.assertIs(is_clash((), thing, width=0), False)


class StaysAsItWas(unittest.TestCase):
    def test_what_is_handed_in_and_the_answers(self):
        for system in (SYSTEM, CLASHING):
            lists = tuple((kind, list(row)) for kind, row in system)
            given = copy.deepcopy(lists)
            self.assertEqual(fitted(given, width=2), fitted(given, width=2))
            is_point(given, ((1, 2), 1), width=2)
            is_clash(given, (1, 1, 1), width=2)
            self.assertEqual(given, lists)


if __name__ == "__main__":
    unittest.main()
