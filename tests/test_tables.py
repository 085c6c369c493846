import unittest
from fractions import Fraction
from unittest import mock

from countfold import tables
from countfold.tables import Table
from tests import adding
from tests.makers import Maker

# x and y are 4 together at most, y is 1 or more.
SYSTEM = (("least", (4, -1, -1)), ("least", (-1, 0, 1)))


def fitting(system, width):
    table = Table(system, width=width)
    return table if table.clash() is None else None


class Greatest(unittest.TestCase):
    def test_told(self):
        table = fitting(SYSTEM, 2)
        for row, worth in [((0, 1, 0), 3), ((0, 0, 1), 4), ((5, 1, 1), 9), ((0, -1, 0), 0), ((0, 0, -1), -1), ((7, 0, 0), 7),
                           ((0, 2, -3), 3), ((0, -2, 3), 12)]:
            numerator, divisor = table.greatest(row)
            self.assertEqual(Fraction(numerator, divisor), worth)
            numerators, under = table.point()
            self.assertEqual(Fraction(under * row[0] + adding.product(row[1:], numerators), under), worth)
            self.assertTrue(adding.fit_over(SYSTEM, numerators, under))

    def test_none_where_there_is_none(self):
        table = fitting((("least", (0, 1, -1)),), 2)
        self.assertIsNone(table.greatest((0, 1, 0)))
        self.assertIsNone(table.greatest((0, 1, 1)))
        self.assertEqual(table.greatest((0, -1, 1))[0], 0)
        self.assertEqual(table.greatest((3, -1, 0)), (3, 1))

    def test_no_less_than_anywhere(self):
        maker = Maker(60)
        for _ in range(150):
            width = maker.whole(1, 6)
            values = [maker.whole(0, 5) for _ in range(width)]
            system = (*maker.system_at(values, maker.whole(1, 8), 5, slack=3), ("least", (30, *[-1] * width)))
            table = fitting(system, width)
            row = maker.row(width, 9)
            numerator, divisor = table.greatest(row)
            self.assertGreaterEqual(Fraction(numerator, divisor), adding.worth(row, values))
            numerators, under = table.point()
            self.assertTrue(adding.fit_over(system, numerators, under))
            self.assertEqual(under * row[0] + adding.product(row[1:], numerators), Fraction(numerator * under, divisor))
            # Nothing that fits is worth more: the system and that clash.
            above = [divisor * part for part in row]
            over = system + (("least", (above[0] - numerator - 1, *above[1:])),)
            weights = Table(over, width=width).clash()
            self.assertTrue(weights is not None and adding.is_clash(over, weights, width))


class BySlowRule(Greatest):
    """The same, turned by the slow rule from the first time on."""

    def run(self, result=None):
        with mock.patch.object(tables, "_QUICK", 0):
            return super().run(result)

    def test_many_rows(self):
        maker = Maker(62)
        words = []
        for _ in range(60):
            width = maker.whole(6, 12)
            system = maker.system(width, 18, maker.among(1, 9))
            weights = Table(system, width=width).clash()
            words.append(weights is None)
            if weights is None:
                self.assertTrue(adding.fit_over(system, *fitting(system, width).point()))
            else:
                self.assertTrue(adding.is_clash(system, weights, width))
            at = [maker.whole(0, 3) for _ in range(width)]
            system = maker.system_at(at, 18, 9)
            self.assertTrue(adding.fit_over(system, *fitting(system, width).point()))


class Grown(unittest.TestCase):
    def test_a_row_more(self):
        maker = Maker(61)
        words = []
        for _ in range(200):
            width = maker.whole(1, 6)
            system = (*maker.system(width, 3, 5), ("least", (20, *[-1] * width)))
            table = fitting(system, width)
            while table is not None and len(system) < 12:
                row = maker.row(width, 5)
                system += (("least", row),)
                table.put(row)
                weights = table.clash()
                words.append(weights is None)
                if weights is None:
                    self.assertTrue(adding.fit_over(system, *table.point()))
                else:
                    self.assertTrue(adding.is_clash(system, weights, width))
                    self.assertEqual(table.clash(), weights)
                    table = None
        self.assertGreater(min(words.count(True), words.count(False)), 50)

    def test_a_twin_is_its_own(self):
        table = fitting((("nought", (-3, 1, 1)), *SYSTEM), 2)
        twin = table.twin()
        twin.put((-1, 1, -5))
        self.assertIsNotNone(twin.clash())
        self.assertIsNone(table.clash())
        self.assertEqual(Fraction(*table.greatest((0, 1, 0))), 2)


class Wholes(unittest.TestCase):
    def test_at_the_point(self):
        for row, values in [((-2, 1), (2,)), ((-4, 2), (2,)), ((0, 3), (0,))]:
            table = fitting((("nought", row),), 1)
            self.assertIs(table.has_wholes(), True)
            self.assertEqual(table.wholes(), values)
        self.assertIs(fitting((("nought", (-3, 2)),), 1).has_wholes(), False)


if __name__ == "__main__":
    unittest.main()
