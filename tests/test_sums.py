import copy
import itertools
import unittest

from countfold.rows import row_worth
from countfold.sums import is_sum, row_of, sum_for, worth_of
from countfold.talks import Talk
from countfold.worlds import worlds_many, world_at
from tests import plainly
from tests.plainly import broad_term, deep_term
from tests.things import THIRTY, nested, no_wholes

TALK = Talk(("a", "b", "c"), ("m", "n"))
SMALL = Talk(("a", "b"), ("n",), most=3)

SUMS = [(), (("lot", 0),), (("lot", -7),), (("num", 1, "n"),), (("num", -2, "n"), ("lot", 5)),
        (("size", 1, "a"),), (("size", 3, ("all",)), ("size", -2, ("none",))),
        (("size", 2, ("but", "a", "b")), ("size", -1, ("or", "a", "b")), ("num", 4, "n"), ("lot", -1)),
        (("size", 1, "a"), ("size", 1, "a"), ("size", -2, "a")), (("size", 0, "b"), ("num", 0, "n"))]


class IsSum(unittest.TestCase):
    def test_sums(self):
        for addends in SUMS:
            self.assertIs(is_sum(SMALL, addends), True, addends)
        self.assertIs(is_sum(thing=(("num", 3, "m"),), talk=TALK), True)
        self.assertIs(is_sum(Talk(), (("size", 2, ("not", ("all",))), ("lot", 1))), True)

    def test_twelve_addends_and_thirteen(self):
        for addend in [("lot", 1), ("num", 1, "n"), ("size", 1, "a")]:
            for many in [0, 1, 11, 12]:
                self.assertIs(is_sum(TALK, (addend,) * many), True)
            for many in [13, 14, 100]:
                self.assertIs(is_sum(TALK, (addend,) * many), False)

    def test_as_many_parts_as_a_word_takes(self):
        for whole in [("lot", 1), ("num", 1, "n"), ("size", 1, "a")]:
            for addend in [whole[:at] for at in range(len(whole))] + [whole + ("a",), whole + ("n",), whole + (1,)]:
                self.assertIs(is_sum(TALK, (addend,)), False, addend)
        for addend in [("num", 1), ("size", 1), ("lot", 1, "a"), ("lot", 1, "n"), ("lot", 1, ())]:
            self.assertIs(is_sum(TALK, (addend,)), False, addend)

    def test_any_whole_number(self):
        for k in [0, 1, -1, THIRTY, -THIRTY]:
            for addend in [("lot", k), ("num", k, "n"), ("size", k, "a")]:
                self.assertIs(is_sum(TALK, (addend,)), True)

    def test_no_other_number(self):
        for k in [*no_wholes(), "a", "n"]:
            for addend in [("lot", k), ("num", k, "n"), ("size", k, "a")]:
                self.assertIs(is_sum(TALK, (addend,)), False, addend)

    def test_names_of_numbers_and_terms_of_sets(self):
        for name in ["a", "o", "", "mn", "M", "n\n", None, 0, True, (), ["n"], ("n",), {"n": 1}, ("m", "n")]:
            self.assertIs(is_sum(TALK, (("num", 1, name),)), False, name)
        for term in ["m", "d", "", "all", None, 0, True, (), ["a"], ("a",), {"a": 1}, ("and", "a", "n"), nested(14)]:
            self.assertIs(is_sum(TALK, (("size", 1, term),)), False, term)
        self.assertIs(is_sum(Talk(("a",)), (("num", 1, "n"),)), False)
        self.assertIs(is_sum(Talk((), ("n",)), (("size", 1, "a"),)), False)

    def test_names_that_are_words(self):
        talk = Talk(("lot", "size"), ("all", "num"))
        for addends in [(("num", 1, "num"),), (("num", 1, "all"),), (("size", 1, "lot"), ("size", 1, ("all",)))]:
            self.assertIs(is_sum(talk, addends), True)
        for addends in [(("num", 1, "size"),), (("size", 1, "num"),), (("size", 1, "all"),)]:
            self.assertIs(is_sum(talk, addends), False)

    def test_terms_at_their_bounds(self):
        for deep in [11, 12, 13, 14]:
            self.assertIs(is_sum(TALK, (("lot", 1), ("size", 1, deep_term(deep)))), deep <= 12)
        for parts in [99, 100, 101, 102]:
            self.assertIs(is_sum(TALK, (("size", 1, broad_term(parts)), ("lot", 1))), parts <= 100)
        self.assertIs(is_sum(TALK, (("size", 1, broad_term(100)),) * 12), True)

    def test_lists_are_no_tuples(self):
        for thing in [[], [("lot", 1)], (["lot", 1],), (("lot", [1]),), (["num", 1, "n"],), (["size", 1, "a"],),
                      (("size", 1, ["all"]),), (("size", 1, ["not", "a"]),), {("lot", 1): 1}]:
            self.assertIs(is_sum(TALK, thing), False, thing)

    def test_nothing_else(self):
        for thing in [*no_wholes(), 0, 1, THIRTY, "lot", (1,), ("lot", 1), ("num", 1, "n"), (("sum", 1),), ((),),
                      (None,), ("a",), ((1, "lot"),), (("lots", 1),), (("", 1),), ((None, 1, "n"),), (({}, 1, "a"),),
                      ((["size"], 1, "a"),), (("lot", 1), ()), (("lot", 1), None), (("lot", 1), ("lot",)),
                      ((("lot", 1),),), (nested(15),), (("size", 1, "a"), nested(14))]:
            # The empty tuple alone is a sum, of no addends.
            self.assertIs(is_sum(TALK, thing), thing == (), thing)


class RowOf(unittest.TestCase):
    def test_each_word(self):
        self.assertEqual(row_of(SMALL, ()), (0, 0, 0, 0, 0, 0))
        self.assertEqual(row_of(SMALL, (("lot", 3),)), (3, 0, 0, 0, 0, 0))
        self.assertEqual(row_of(SMALL, (("num", -2, "n"),)), (0, 0, 0, 0, 0, -2))
        self.assertEqual(row_of(SMALL, (("size", 4, "b"),)), (0, 0, 0, 4, 4, 0))
        self.assertEqual(row_of(SMALL, (("size", 1, ("all",)),)), (0, 1, 1, 1, 1, 0))
        self.assertEqual(row_of(TALK, (("num", 1, "m"), ("num", 5, "n"))), (0,) * 9 + (1, 5))
        self.assertEqual(row_of(addends=(("size", 2, ("all",)),), talk=Talk()), (0, 2))

    def test_the_same_in_several_addends(self):
        addends = (("size", 4, "a"), ("lot", 1), ("size", -1, "b"), ("num", 2, "n"), ("lot", 6), ("size", 5, "a"),
                   ("num", 7, "n"))
        self.assertEqual(row_of(SMALL, addends), (7, 0, 9, -1, 8, 9))

    def test_nought_below_and_thirty_figures(self):
        self.assertEqual(row_of(SMALL, (("size", 0, "a"), ("num", 0, "n"), ("lot", 0))), (0,) * 6)
        self.assertEqual(row_of(SMALL, (("size", -3, ("not", "a")),)), (0, -3, 0, -3, 0, 0))
        addends = (("size", THIRTY, "a"), ("lot", -THIRTY), ("num", THIRTY, "n"), ("size", THIRTY, "b"))
        self.assertEqual(row_of(SMALL, addends), (-THIRTY, 0, THIRTY, THIRTY, 2 * THIRTY, THIRTY))

    def test_a_tuple_whatever_most_is(self):
        for addends in SUMS:
            row = row_of(SMALL, addends)
            self.assertIs(type(row), tuple)
            for most in [1, 2, 12, THIRTY]:
                self.assertEqual(row_of(Talk(("a", "b"), ("n",), most=most), addends), row)

    def test_what_is_handed_in_stays(self):
        for addends in SUMS:
            given = copy.deepcopy(addends)
            row_of(SMALL, given)
            self.assertEqual(given, addends)


class SumFor(unittest.TestCase):
    def check(self, talk, row):
        addends = sum_for(talk, row)
        self.assertIs(is_sum(talk, addends), True, addends)
        self.assertEqual(row_of(talk, addends), tuple(row))

    def test_each_small_row(self):
        talk = Talk(("a",), ("n",))
        for row in itertools.product([-2, 0, 1], repeat=4):
            self.check(talk, row)
            self.check(talk, list(row))

    def test_three_sets_and_two_numbers(self):
        for row in [range(11), range(-11, 0), range(5, -6, -1), [0] * 11, [1] * 11, [0] * 10 + [3], [7] + [0] * 10,
                    [0, 1, 0, 1, 0, 1, 0, 1, 0, 2, 2], [THIRTY - at for at in range(11)]]:
            self.check(TALK, tuple(row))
            self.check(TALK, list(row))

    def test_each_talk(self):
        for sets, numbers in itertools.product(range(4), range(3)):
            talk = Talk(("a", "b", "c")[:sets], ("m", "n")[:numbers])
            for first in [-5, 0, 5]:
                self.check(talk, tuple(range(first, first + 1 + len(talk))))
            self.check(talk, [0] * (1 + len(talk)))

    def test_the_row_of_each_sum(self):
        for addends in SUMS:
            self.check(SMALL, row_of(SMALL, addends))

    def test_numbers_however_large(self):
        self.check(SMALL, (10 ** 5000, -10 ** 5000, 1, 0, -1, 10 ** 5000))

    def test_by_name_the_same_again_and_nothing_changed(self):
        row = [1, 2, 3, 4, 5, 6]
        self.assertEqual(sum_for(row=row, talk=SMALL), sum_for(SMALL, (1, 2, 3, 4, 5, 6)))
        self.assertEqual(row, [1, 2, 3, 4, 5, 6])


class WorthOf(unittest.TestCase):
    def test_in_worlds(self):
        world = ((1, 2, 0, 3), (7,))
        for addends, told in [((), 0), ((("lot", 3),), 3), ((("num", 2, "n"),), 14), ((("size", 1, "a"),), 5),
                              ((("size", -2, ("but", "a", "b")), ("lot", 1)), -3), ((("size", 4, ("none",)),), 0),
                              ((("size", 1, ("all",)), ("size", 1, "b"), ("num", -1, "n")), 2)]:
            self.assertEqual(worth_of(Talk(("a", "b"), ("n",)), world, addends), told, addends)
        self.assertEqual(worth_of(addends=(("num", 1, "m"), ("num", 10, "n")), world=((4,), (2, 3)),
                                  talk=Talk((), ("m", "n"))), 32)

    def test_in_each_world_as_gone_through_and_by_its_row(self):
        for addends in SUMS:
            row = row_of(SMALL, addends)
            for number in range(worlds_many(SMALL)):
                world = world_at(SMALL, number)
                told = worth_of(SMALL, world, addends)
                self.assertEqual(told, plainly.worth(SMALL, world, addends))
                self.assertEqual(told, row_worth(row, world[0] + world[1]))

    def test_thirty_figures(self):
        talk = Talk(("a",), ("n",), most=THIRTY)
        addends = (("size", THIRTY, "a"), ("num", -THIRTY, "n"), ("lot", 1))
        self.assertEqual(worth_of(talk, ((0, THIRTY), (THIRTY,)), addends), 1)
        self.assertEqual(worth_of(talk, ((THIRTY, 0), (1,)), addends), 1 - THIRTY)
        self.assertEqual(worth_of(talk, ((1, THIRTY - 1), (0,)), addends), THIRTY * (THIRTY - 1) + 1)


if __name__ == "__main__":
    unittest.main()
