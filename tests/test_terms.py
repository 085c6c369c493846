import copy
import itertools
import unittest

from countfold.errors import NoRegion
from countfold.talks import Talk
from countfold.terms import are_alike, is_term, regions_of, term_for
from tests.plainly import broad_term, deep_term
from tests.things import THIRTY, nested, no_wholes

TALK = Talk(("a", "b", "c"), ("n",))


def parts_of(term):
    return 1 if isinstance(term, str) else 1 + sum(parts_of(under) for under in term[1:])


class IsTerm(unittest.TestCase):
    def test_terms(self):
        for term in ["a", "b", "c", ("none",), ("all",), ("not", "a"), ("not", ("all",)), ("and", "a", "b"),
                     ("or", "a", ("none",)), ("but", ("not", "a"), ("and", "b", "c"))]:
            self.assertIs(is_term(TALK, term), True, term)
        self.assertIs(is_term(thing=("all",), talk=Talk()), True)

    def test_words_are_not_names(self):
        talk = Talk(("all", "none", "not"))
        for term in ["all", "none", "not", ("not", "not"), ("and", "all", ("all",))]:
            self.assertIs(is_term(talk, term), True, term)
        for term in ["all", "none", "not", "and", ("not", "all")]:
            self.assertIs(is_term(TALK, term), False, term)

    def test_names_are_those_of_sets(self):
        for thing in ["d", "n", "", "ab", "A", "a\n", ("not", "n"), ("and", "a", "d"), ("or", "n", "a")]:
            self.assertIs(is_term(TALK, thing), False, thing)
        self.assertIs(is_term(Talk(), "a"), False)

    def test_as_many_behind_a_word_as_it_takes(self):
        for word, takes in [("none", 0), ("all", 0), ("not", 1), ("and", 2), ("or", 2), ("but", 2)]:
            for many in range(5):
                self.assertIs(is_term(TALK, (word,) + ("a",) * many), many == takes, (word, many))

    def test_nothing_else(self):
        things = [None, True, False, 0, 1, THIRTY, (), [], {}, ["all"], ["not", "a"], {"all": 1}, ("a",), ("xor", "a"),
                  ("", "a"), ("nand", "a", "b"), (None,), (1, "a"), (True,), ([],), ({}, "a"), (("all",),),
                  ((), "a"), (("not",), "a"), nested(16)]
        for thing in things:
            self.assertIs(is_term(TALK, thing), False, thing)
            self.assertIs(is_term(TALK, ("not", thing)), False, thing)
            self.assertIs(is_term(TALK, ("and", thing, "a")), False, thing)
            self.assertIs(is_term(TALK, ("or", "a", thing)), False, thing)

    def test_twelve_deep_and_thirteen(self):
        for leaf in ["a", ("all",), ("none",)]:
            for deep in [1, 11, 12]:
                self.assertIs(is_term(TALK, deep_term(deep, leaf)), True)
            for deep in [13, 14, 16]:
                self.assertIs(is_term(TALK, deep_term(deep, leaf)), False)
        self.assertIs(is_term(TALK, ("and", "a", deep_term(11))), True)
        self.assertIs(is_term(TALK, ("and", "a", deep_term(12))), False)
        self.assertIs(is_term(TALK, ("but", deep_term(12), "a")), False)

    def test_a_hundred_parts_and_a_hundred_and_one(self):
        for parts in [1, 2, 3, 50, 98, 99, 100, 101, 102, 150, 1001]:
            term = broad_term(parts)
            self.assertEqual(parts_of(term), parts)
            self.assertIs(is_term(TALK, term), parts <= 100, parts)

    def test_words_without_terms_are_parts(self):
        left = broad_term(97)
        self.assertIs(is_term(TALK, ("and", left, ("all",))), True)
        self.assertIs(is_term(TALK, ("and", left, ("not", ("none",)))), True)
        self.assertIs(is_term(TALK, ("and", left, ("not", ("not", ("none",))))), False)

    def test_doubled_again_and_again(self):
        term = "a"
        for _ in range(15):
            term = ("and", term, term)
        self.assertIs(is_term(TALK, term), False)


class RegionsOf(unittest.TestCase):
    def test_names_and_words(self):
        self.assertEqual(regions_of(TALK, "a"), [1, 3, 5, 7])
        self.assertEqual(regions_of(TALK, "b"), [2, 3, 6, 7])
        self.assertEqual(regions_of(TALK, "c"), [4, 5, 6, 7])
        self.assertEqual(regions_of(TALK, ("none",)), [])
        self.assertEqual(regions_of(TALK, ("all",)), list(range(8)))
        self.assertEqual(regions_of(TALK, ("not", "a")), [0, 2, 4, 6])
        self.assertEqual(regions_of(TALK, ("and", "a", "b")), [3, 7])
        self.assertEqual(regions_of(TALK, ("or", "a", "b")), [1, 2, 3, 5, 6, 7])
        self.assertEqual(regions_of(TALK, ("but", "a", "b")), [1, 5])
        self.assertEqual(regions_of(TALK, ("but", ("all",), ("or", "a", ("not", "c")))), [4, 6])
        self.assertEqual(regions_of(term="a", talk=Talk(("a",))), [1])

    def test_without_sets(self):
        self.assertEqual(regions_of(Talk(), ("all",)), [0])
        self.assertEqual(regions_of(Talk(), ("not", ("all",))), [])

    def test_words_by_sets_of_regions(self):
        terms = ["a", "b", "c", ("none",), ("all",), ("not", "b"), ("and", "a", "c"), ("but", "b", "c")]
        for one, other in itertools.product(terms, terms):
            left, right = set(regions_of(TALK, one)), set(regions_of(TALK, other))
            self.assertEqual(regions_of(TALK, ("and", one, other)), sorted(left & right))
            self.assertEqual(regions_of(TALK, ("or", one, other)), sorted(left | right))
            self.assertEqual(regions_of(TALK, ("but", one, other)), sorted(left - right))
            self.assertEqual(regions_of(TALK, ("not", one)), sorted(set(range(8)) - left))

    def test_sets_named_as_words(self):
        talk = Talk(("all", "none"))
        self.assertEqual(regions_of(talk, "all"), [1, 3])
        self.assertEqual(regions_of(talk, "none"), [2, 3])
        self.assertEqual(regions_of(talk, ("and", "none", ("all",))), [2, 3])

    def test_a_new_list_each_time(self):
        term = ("not", "a")
        first = regions_of(TALK, term)
        self.assertIs(type(first), list)
        first.append(99)
        self.assertEqual(regions_of(TALK, term), [0, 2, 4, 6])
        self.assertIsNot(regions_of(TALK, term), regions_of(TALK, term))

    def test_the_deepest_and_the_broadest(self):
        self.assertEqual(regions_of(TALK, deep_term(12)), [0, 2, 4, 6])
        self.assertEqual(regions_of(TALK, broad_term(99)), [1, 3, 5, 7])


class TermFor(unittest.TestCase):
    def test_each_list_of_regions(self):
        for many in range(4):
            talk = Talk(("a", "b", "c")[:many])
            for kept in itertools.product([False, True], repeat=talk.regions()):
                regions = [region for region in range(talk.regions()) if kept[region]]
                term = term_for(talk, regions)
                self.assertTrue(is_term(talk, term), term)
                self.assertEqual(regions_of(talk, term), regions)

    def test_in_any_order_and_twice(self):
        for regions in [[7, 0, 3], [3, 3], [5, 2, 5, 2, 0], [7, 6, 5, 4, 3, 2, 1, 0], [1] * 50]:
            given = list(regions)
            term = term_for(TALK, given)
            self.assertTrue(is_term(TALK, term))
            self.assertEqual(regions_of(TALK, term), sorted(set(regions)))
            self.assertEqual(given, regions)

    def test_by_name(self):
        self.assertEqual(regions_of(TALK, term_for(regions=[2], talk=TALK)), [2])

    def test_the_same_question_has_the_same_answer(self):
        self.assertEqual(term_for(TALK, [0, 3, 5]), term_for(TALK, [0, 3, 5]))

    def test_no_region(self):
        for thing in [*no_wholes(), -1, 8, 9, THIRTY]:
            for regions in [[thing], [0, thing], [thing, 0, -5], [7, thing, 8]]:
                given = copy.deepcopy(regions)
                with self.assertRaises(NoRegion) as caught:
                    term_for(TALK, given)
                self.assertEqual(caught.exception.region, thing)
                self.assertEqual(given, regions)

    def test_the_very_first_that_is_none(self):
        first, second = ["x"], ["x"]
        with self.assertRaises(NoRegion) as caught:
            term_for(TALK, [0, first, second])
        self.assertIs(caught.exception.region, first)
        with self.assertRaises(NoRegion) as caught:
            term_for(Talk(), [0, 1, 2])
        self.assertEqual(caught.exception.region, 1)
        with self.assertRaises(NoRegion) as caught:
            term_for(TALK, [True])
        self.assertIs(caught.exception.region, True)


class AreAlike(unittest.TestCase):
    def test_alike(self):
        for one, other in [("a", "a"), ("a", ("not", ("not", "a"))), (("and", "a", "b"), ("and", "b", "a")),
                           (("but", "a", "b"), ("and", "a", ("not", "b"))), (("none",), ("but", "a", "a"))]:
            self.assertIs(are_alike(TALK, one, other), True)
            self.assertIs(are_alike(TALK, other, one), True)

    def test_unlike(self):
        for one, other in [("a", "b"), ("a", ("all",)), (("none",), ("all",)), (("or", "a", "b"), ("and", "a", "b")),
                           (("but", "a", "b"), ("but", "b", "a")), ("a", ("and", "a", "b"))]:
            self.assertIs(are_alike(TALK, one, other), False)
            self.assertIs(are_alike(TALK, other, one), False)

    def test_by_name_and_by_talk(self):
        self.assertIs(are_alike(other=("all",), term=("none",), talk=Talk()), False)
        self.assertIs(are_alike(Talk(), ("not", ("none",)), ("all",)), True)


if __name__ == "__main__":
    unittest.main()
