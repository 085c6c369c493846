import unittest

from countfold.rows import added, divisor_of, row_worth
from tests.things import THIRTY


class RowWorth(unittest.TestCase):
    def test_constant_and_coefs(self):
        self.assertEqual(row_worth((3, 2, -1), (5, 4)), 9)
        self.assertEqual(row_worth((0, 0, 0, 1), (9, 9, 2)), 2)
        self.assertEqual(row_worth((-7, -2), (3,)), -13)
        self.assertEqual(row_worth((1, 1), (-4,)), -3)

    def test_width_nought(self):
        self.assertEqual(row_worth((5,), ()), 5)
        self.assertEqual(row_worth([-5], []), -5)

    def test_great_numbers(self):
        self.assertEqual(row_worth((THIRTY, THIRTY, -1), (THIRTY, 1)), THIRTY + THIRTY * THIRTY - 1)

    def test_lists_tuples_and_names(self):
        for row in [(3, 2, -1), [3, 2, -1]]:
            for values in [(5, 4), [5, 4]]:
                self.assertEqual(row_worth(values=values, row=row), 9)

    def test_what_is_handed_in_stays(self):
        row, values = [3, 2, -1], [5, 4]
        row_worth(row, values)
        self.assertEqual((row, values), ([3, 2, -1], [5, 4]))


class Added(unittest.TestCase):
    def test_each_times_its_weight(self):
        self.assertEqual(added([(1, 2), (0, 3)], [2, -1], width=1), (2, 1))
        self.assertEqual(added([(1, 2, 3), (4, 5, 6), (7, 8, 9)], (1, 10, 100), width=2), (741, 852, 963))
        self.assertEqual(added(weights=[3], rows=[(1, -2)], width=1), (3, -6))

    def test_no_rows(self):
        self.assertEqual(added([], [], width=3), (0, 0, 0, 0))
        self.assertEqual(added((), (), width=0), (0,))

    def test_width_nought(self):
        self.assertEqual(added([(5,), (7,)], [2, -3], width=0), (-11,))

    def test_weights_nought_and_below(self):
        self.assertEqual(added([(1, 2), (3, 4)], [0, 0], width=1), (0, 0))
        self.assertEqual(added([(1, 2), (3, 4)], [0, -1], width=1), (-3, -4))

    def test_great_numbers(self):
        self.assertEqual(added([(THIRTY, 1), (1, -1)], [THIRTY, 1], width=1), (THIRTY ** 2 + 1, THIRTY - 1))

    def test_a_tuple_of_lists_or_tuples(self):
        for rows in [[(1, 2), (3, 4)], ([1, 2], [3, 4]), [[1, 2], (3, 4)]]:
            for weights in [[1, 2], (1, 2)]:
                total = added(rows, weights, width=1)
                self.assertEqual(total, (7, 10))
                self.assertIs(type(total), tuple)

    def test_width_by_name_alone(self):
        with self.assertRaises(TypeError):
            added([], [], 1)

    def test_what_is_handed_in_stays(self):
        rows, weights = [[1, 2], [3, 4]], [5, 6]
        added(rows, weights, width=1)
        self.assertEqual((rows, weights), ([[1, 2], [3, 4]], [5, 6]))


class DivisorOf(unittest.TestCase):
    def test_the_greatest_that_divides_each(self):
        self.assertEqual(divisor_of((1, 4, 6)), 2)
        self.assertEqual(divisor_of((5, 6, 10, 15)), 1)
        self.assertEqual(divisor_of((0, 12, 18, 30)), 6)
        self.assertEqual(divisor_of([4, 7]), 7)

    def test_the_constant_does_not_count(self):
        self.assertEqual(divisor_of((3, 4, 8)), 4)
        self.assertEqual(divisor_of((0, 4, 8)), 4)

    def test_no_coefs_or_all_nought(self):
        self.assertEqual(divisor_of((7,)), 0)
        self.assertEqual(divisor_of([0]), 0)
        self.assertEqual(divisor_of((7, 0, 0)), 0)

    def test_some_nought(self):
        self.assertEqual(divisor_of((1, 0, 9, 0, 6)), 3)

    def test_negative_ones(self):
        self.assertEqual(divisor_of((1, -4)), 4)
        self.assertEqual(divisor_of((1, -4, -6)), 2)
        self.assertEqual(divisor_of((1, 9, -6)), 3)

    def test_thirty_figures(self):
        self.assertEqual(divisor_of((1, THIRTY, -THIRTY)), THIRTY)
        self.assertEqual(divisor_of((1, 10 ** 29, 2 ** 29 * 3)), 2 ** 29)

    def test_by_name_and_what_is_handed_in_stays(self):
        row = [1, 4, -6]
        self.assertEqual(divisor_of(row=row), 2)
        self.assertEqual(row, [1, 4, -6])


if __name__ == "__main__":
    unittest.main()
