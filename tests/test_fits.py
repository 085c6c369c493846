import copy
import itertools
import unittest

from countfold.fits import fits, whole_fit
from countfold.papers import shows_no
from tests import adding
from tests.makers import Maker
from tests.things import THIRTY


def unit(width, place, coef=1):
    return [coef * int(at == place) for at in range(width)]


def boxed(width, most):
    """Rows by which no unknown is above most."""
    return tuple(("least", (most, *unit(width, place, -1))) for place in range(width))


def banded(row, most):
    """Rows by which a row is worth 0 to most."""
    return ("least", tuple(row)), ("least", (most - row[0], *[-coef for coef in row[1:]]))


def ring(width, step, rise, back):
    """Each unknown, so many times, is so much above the one ahead; the first one is at most so much below the last."""
    rows = [(-rise, *[step * (a - b) for a, b in zip(unit(width, at + 1), unit(width, at))]) for at in range(width - 1)]
    return (*[("least", row) for row in rows], ("least", (back, *[a - b for a, b in zip(unit(width, 0), unit(width, width - 1))])),
            ("least", (99, *unit(width, width - 1, -1))))


class Checked(unittest.TestCase):
    def check(self, system, width):
        """The word of the answer, which is gone over."""
        answer = whole_fit(system, width=width)
        self.assertEqual(len(answer), 2)
        word, found = answer
        if word == "fit":
            self.assertTrue(adding.are_wholes(found) and len(found) == width)
            self.assertTrue(adding.fit(system, found), (system, found))
            self.assertIs(fits(system, found), True)
        else:
            self.assertEqual(word, "no")
            self.assertTrue(adding.is_paper(system, found, width), system)
            self.assertIs(shows_no(system, found, width=width), True)
        return word


class Fits(unittest.TestCase):
    SYSTEM = (("least", (-1, 1, 0)), ("least", (3, -1, 0)), ("nought", (1, 1, -1)))

    def test_just_those_that_do(self):
        for values in itertools.product(range(-2, 6), repeat=2):
            told = 1 <= values[0] <= 3 and values[1] == values[0] + 1
            self.assertIs(fits(self.SYSTEM, values), told)
            self.assertIs(fits(self.SYSTEM, list(values)), told)
        self.assertIs(fits(values=(1, 2), system=tuple((kind, list(row)) for kind, row in self.SYSTEM)), True)

    def test_below_0(self):
        self.assertIs(fits((), (0, 0)), True)
        self.assertIs(fits((), (0, -1)), False)
        self.assertIs(fits((("least", (5, 1)),), (-1,)), False)
        self.assertIs(fits((("nought", (1, 1)),), (-1,)), False)

    def test_none(self):
        self.assertIs(fits((), ()), True)
        self.assertIs(fits((("least", (-1,)),), ()), False)
        self.assertIs(fits((("least", (0,)), ("nought", (0,))), ()), True)
        self.assertIs(fits((("nought", (1,)),), ()), False)

    def test_of_many_figures(self):
        many = 10 ** 5000
        self.assertIs(fits((("nought", (-many, 10 ** 2500)),), (10 ** 2500,)), True)
        self.assertIs(fits((("nought", (-many, 10 ** 2500)),), (10 ** 2500 - 1,)), False)


class WholeFit(Checked):
    def test_told(self):
        self.assertEqual(whole_fit((("nought", (-6, 2)),), width=1), ("fit", (3,)))
        self.assertEqual(whole_fit(system=(("nought", (-3, 1)), ("least", (0, 1))), width=1), ("fit", (3,)))
        self.assertEqual(self.check((("nought", (-3, 2)),), 1), "no")
        self.assertEqual(self.check((("nought", (3, 1)),), 1), "no")
        self.assertEqual(self.check((("least", (-1, 3)), ("least", (2, -3))), 1), "no")
        self.assertEqual(self.check((("least", (-1, 3)), ("least", (3, -3))), 1), "fit")

    def test_width_0(self):
        for kind, constant, word in [("least", 0, "fit"), ("least", -1, "no"), ("nought", 0, "fit"), ("nought", 2, "no")]:
            self.assertEqual(self.check(((kind, (constant,)), ("least", (7,))), 0), word)
        self.assertEqual(whole_fit((), width=0), ("fit", ()))

    def test_rows_as_lists(self):
        for system in [(("nought", (-3, 2, 4)), *boxed(2, 9)), (("nought", (-4, 2, 4)), *boxed(2, 9)),
                       (*banded((-1, 3, -3), 1), *boxed(2, 9))]:
            lists = tuple((kind, list(row)) for kind, row in system)
            self.assertEqual(whole_fit(lists, width=2), whole_fit(system, width=2))

    def test_against_all_whole_values_of_small_boxes(self):
        maker = Maker(20)
        words = []
        for _ in range(700):
            width, most = maker.whole(0, 3), maker.whole(1, 4)
            system = maker.system(width, maker.whole(0, 4), maker.among(1, 2, 3, 7, 50)) + boxed(width, most)
            words.append(self.check(system, width))
            self.assertEqual(words[-1] == "fit", adding.some_fit(system, width, most), system)
        self.assertGreater(min(words.count("fit"), words.count("no")), 100)

    def test_thin_bands_in_small_boxes(self):
        maker = Maker(21)
        words = []
        for _ in range(400):
            width, most = maker.whole(2, 3), maker.whole(2, 6)
            bands = [banded(maker.row(width, 9), maker.whole(0, 2)) for _ in range(maker.whole(1, 2))]
            system = tuple(row for band in bands for row in band) + boxed(width, most)
            words.append(self.check(system, width))
            self.assertEqual(words[-1] == "fit", adding.some_fit(system, width, most), system)
        self.assertGreater(min(words.count("fit"), words.count("no")), 100)

    def test_without_bounds(self):
        for system, width, word in [((("least", (-1, 2, -3)),), 2, "fit"), ((("least", (-1, 3, -3)), ("least", (2, -3, 3))), 2, "no"),
                                    ((("least", (-1, 3, -3)), ("least", (3, -3, 3))), 2, "fit"),
                                    ((("nought", (-1, 6, -10, 15)), ("least", (-7, 1, 0, -2))), 3, "fit"),
                                    (banded((-1, 5, -7, 0), 0), 3, "fit"), (banded((-1, 6, -10, 4), 0), 3, "no")]:
            self.assertEqual(self.check(system, width), word)

    def test_the_paper_of_noughts_alone_is_a_rest(self):
        word, paper = whole_fit((("least", (9, -1, 0)), ("nought", (0, 1, 1)), ("nought", (-1, 1, -1))), width=2)
        self.assertEqual((word, [step[0] for step in paper]), ("no", ["rest"]))
        self.assertEqual(paper[0][1][0], 0)


class BrokenAlone(Checked):
    def test_a_divisor_that_does_not_divide_the_constant(self):
        for g in (2, 3, 7, 10 ** 20):
            for constant in (1, g // 2, g - 1, 3 * g + 1):
                self.assertEqual(self.check((("nought", (-constant, g, -g)), *boxed(2, 99)), 2), "no")
                self.assertEqual(self.check((*banded((-constant, g, -g), 0), *boxed(2, 99)), 2), "no")
                self.assertEqual(self.check((("nought", (-g, g, -g)), *boxed(2, 99)), 2), "fit")
        # The rows themselves have none, two of them added have 2.
        self.assertEqual(self.check((*banded((-1, 1, 1, 2), 0), *banded((0, 1, -1, 0), 0), *boxed(3, 99)), 3), "no")

    def test_two_unknowns_some_times_one_another(self):
        for one, other in [(7, 5), (2, 3), (97, 89), (12, 25), (99, 98)]:
            row = ("nought", (0, one, -other))
            box = (*boxed(2, 99), ("least", (-1, 1, 0)))
            self.assertEqual(self.check((row, *box), 2), "fit" if max(one, other) <= 99 else "no")
            self.assertEqual(self.check((row, *box, ("least", (other - 1, -1, 0))), 2), "no")
            self.assertEqual(self.check((row, *box, ("least", (one - 1, 0, -1))), 2), "no")
            self.assertEqual(self.check((*banded((0, one, -other), 0), *box, ("least", (other - 1, -1, 0))), 2), "no")

    def test_between_two_whole_numbers(self):
        for many in range(1, 13):
            # The sum of all, twice, is just an odd number; so it is of all but the first, three times, and 1.
            self.assertEqual(self.check((*banded((-2 * many - 1, *[2] * many), 0), *boxed(many, 5)), many), "no")
            self.assertEqual(self.check((*banded((-3 * many - 1, *[3] * many), 1), *boxed(many, 5)), many), "no")
            self.assertEqual(self.check((*banded((-3 * many - 1, *[3] * many), 2), *boxed(many, 5)), many), "fit")

    def test_thin_slices_of_a_box(self):
        # 98 times one less 99 times the other is a half, or 1 to 97 more or less.
        self.assertEqual(self.check((*banded((-1, 196, -198), 0), *boxed(2, 99)), 2), "no")
        self.assertEqual(self.check((*banded((-49, 98, -99), 0), *boxed(2, 48)), 2), "no")
        self.assertEqual(self.check((*banded((-49, 98, -99), 0), *boxed(2, 99)), 2), "fit")


class Rings(Checked):
    def test_each_above_the_one_ahead(self):
        for width in (2, 3, 12):
            rows = tuple(("least", (-1, *[a - b for a, b in zip(unit(width, (at + 1) % width), unit(width, at))]))
                         for at in range(width))
            self.assertEqual(self.check(rows + boxed(width, 99)[:8], width), "no")
            self.assertEqual(self.check(rows[1:] + boxed(width, 99)[:8], width), "fit")

    def test_by_parts_of_a_whole(self):
        # Of fractions eleven rises of a half, a third, .. are fewer than those of whole values.
        for step, rise in [(2, 1), (3, 1), (3, 2), (10, 1), (7, 8)]:
            whole_rise = 11 * -(-rise // step)
            for back in range(-(-11 * rise // step), whole_rise):
                self.assertEqual(self.check(ring(12, step, rise, back), 12), "no")
            self.assertEqual(self.check(ring(12, step, rise, whole_rise), 12), "fit")

    def test_odd_rings_of_pairs(self):
        for width in (3, 5, 11):
            pairs = [tuple(a + b for a, b in zip(unit(width, at), unit(width, (at + 1) % width))) for at in range(width)]
            most = tuple(("least", (1, *[-coef for coef in pair])) for pair in pairs)
            half = width // 2
            self.assertEqual(self.check((*most, ("least", (-half - 1, *[1] * width))), width), "no")
            self.assertEqual(self.check((*most, ("least", (-half, *[1] * width))), width), "fit")
            noughts = tuple(("nought", (-1, *pair)) for pair in pairs)
            self.assertEqual(self.check(noughts, width), "no")


class TwentyRowsAndTwelveUnknowns(Checked):
    def test_values_to_99_that_fit(self):
        maker = Maker(22)
        for _ in range(60):
            values = [maker.whole(0, 99) for _ in range(12)]
            system = maker.system_at(values, 8, maker.among(1, 3, 9, 99, THIRTY), slack=maker.among(0, 1, 9))
            self.assertEqual(self.check(system + boxed(12, 99), 12), "fit")

    def test_many_rows_and_a_bound_of_all(self):
        maker = Maker(23)
        for _ in range(60):
            values = [maker.whole(0, 9) for _ in range(12)]
            system = maker.system_at(values, 19, maker.among(1, 3, 9), slack=maker.among(0, 3))
            self.assertEqual(self.check((*system, ("least", (99, *[-1] * 12))), 12), "fit")

    def test_some_or_none(self):
        maker = Maker(24)
        words = []
        for _ in range(60):
            words.append(self.check(maker.system(12, maker.whole(1, 8), maker.among(1, 9, 1000)) + boxed(12, 99), 12))
            bands = [banded(maker.row(12, maker.among(9, 99)), maker.whole(0, 3)) for _ in range(4)]
            words.append(self.check(tuple(row for band in bands for row in band) + boxed(12, 99), 12))
        self.assertGreater(min(words.count("fit"), words.count("no")), 5)

    def test_a_sum_of_great_numbers(self):
        maker = Maker(25)
        for figures in (3, 6, 10, 15, 29):
            coefs = [maker.whole(10 ** (figures - 1), 10 ** figures) for _ in range(12)]
            values = [maker.whole(0, 20) for _ in range(12)]
            row = (-adding.product(coefs, values), *coefs)
            self.assertEqual(self.check((("nought", row), *boxed(12, 20)), 12), "fit")
            self.check((("nought", (row[0] - 1, *coefs)), *boxed(12, 20)), 12)
            self.check((*banded((row[0] - 1, *coefs), 0), *boxed(12, 20)), 12)
        for _ in range(5):
            # Two sums at once, each of half of all, of things that are in or out.
            rows = [maker.row(12, 99) for _ in range(3)]
            self.check((*[("nought", (-sum(row[1:]) // 2, *row[1:])) for row in rows], *boxed(12, 1)), 12)

    def test_rows_that_say_the_same(self):
        maker = Maker(26)
        for _ in range(20):
            values = [maker.whole(0, 9) for _ in range(12)]
            system = maker.system_at(values, 5, 9)
            twice = tuple((kind, tuple(2 * part for part in row)) for kind, row in system)
            self.assertEqual(self.check(system + twice + ((("least", (99, *[-1] * 12)),)), 12), "fit")


class StaysAsItWas(unittest.TestCase):
    def test_what_is_handed_in_and_the_answers(self):
        for system in [(("nought", [-3, 2, 4]),), (*banded([-1, 3, -3], 1), *boxed(2, 9)), (("least", [-3, 2, 4]), *boxed(2, 9))]:
            given = copy.deepcopy(system)
            self.assertEqual(whole_fit(given, width=2), whole_fit(given, width=2))
            values = [1, 2]
            self.assertEqual(fits(given, values), fits(given, values))
            self.assertEqual((given, values), (system, [1, 2]))


if __name__ == "__main__":
    unittest.main()
