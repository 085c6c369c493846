import copy
import unittest

from countfold.sayings import is_saying, names_in
from countfold.talks import Talk
from tests.plainly import broad_saying, broad_term, deep_saying, deep_term
from tests.things import THIRTY, nested, no_texts, no_wholes

TALK = Talk(("a", "b"), ("n",))
SUM, TERM = (("size", 1, "a"), ("num", 2, "n")), ("but", "a", "b")
PLAIN = [("atmost", SUM, ()), ("equal", (("lot", 3),), SUM), ("parts", 2, SUM), ("within", TERM, "b"),
         ("same", "a", TERM)]
MADE = [("not", PLAIN[0]), ("both", PLAIN[1], PLAIN[2]), ("either", PLAIN[3], PLAIN[4])]


class IsSaying(unittest.TestCase):
    def test_each_word(self):
        for saying in PLAIN + MADE:
            self.assertIs(is_saying(TALK, saying), True, saying)
            self.assertIs(is_saying(TALK, ("not", saying)), True, saying)
            self.assertIs(is_saying(TALK, ("both", saying, ("either", saying, saying))), True, saying)
        self.assertIs(is_saying(thing=("atmost", (), ()), talk=Talk()), True)
        self.assertIs(is_saying(Talk(), ("within", ("none",), ("all",))), True)

    def test_as_many_parts_as_a_word_takes(self):
        for saying in PLAIN + MADE:
            for cut in range(len(saying)):
                self.assertIs(is_saying(TALK, saying[:cut]), False, saying[:cut])
                self.assertIs(is_saying(TALK, ("not", saying[:cut])), False, saying[:cut])
            for more in [saying[-1], PLAIN[0], (), "a", None]:
                self.assertIs(is_saying(TALK, saying + (more,)), False, (saying, more))

    def test_two_or_more_divide(self):
        for g in [2, 3, THIRTY]:
            self.assertIs(is_saying(TALK, ("parts", g, SUM)), True, g)
        for g in [1, 0, -1, -2, -THIRTY, *no_wholes()]:
            self.assertIs(is_saying(TALK, ("parts", g, SUM)), False, g)
        self.assertIs(is_saying(TALK, ("parts", SUM, 2)), False)

    def test_six_deep_and_seven(self):
        for leaf in PLAIN:
            for deep in range(1, 10):
                self.assertIs(is_saying(TALK, deep_saying(deep, leaf)), deep <= 6, (leaf, deep))
        for word in ["both", "either"]:
            for deep in [5, 6, 7]:
                self.assertIs(is_saying(TALK, (word, PLAIN[0], deep_saying(deep))), deep <= 5)
                self.assertIs(is_saying(TALK, (word, deep_saying(deep), PLAIN[0])), deep <= 5)

    def test_terms_are_as_deep_as_elsewhere(self):
        for deep in [12, 13]:
            for saying in [("within", deep_term(deep), "a"), ("same", "a", deep_term(deep)),
                           ("parts", 2, (("size", 1, deep_term(deep)),))]:
                self.assertIs(is_saying(TALK, deep_saying(6, saying)), deep == 12)

    def test_twenty_four_parts_and_twenty_five(self):
        for leaf in PLAIN:
            for parts in [1, 2, 3, 12, 22, 23, 24, 25, 26, 27, 31, 32]:
                self.assertIs(is_saying(TALK, broad_saying(parts, leaf)), parts <= 24, parts)

    def test_sums_and_terms_are_no_parts_of_it(self):
        great = ("atmost", (("size", 1, broad_term(100)),) * 12, (("size", 1, broad_term(99)),) * 12)
        self.assertIs(is_saying(TALK, broad_saying(23, great)), True)
        self.assertIs(is_saying(TALK, ("within", broad_term(100), broad_term(100))), True)
        self.assertIs(is_saying(TALK, ("within", broad_term(100), broad_term(101))), False)

    def test_no_sum_of_the_talk(self):
        for thing in [(("num", 1, "m"),), (("num", 1, "a"),), (("size", 1, "n"),), (("size", 1, "c"),), "a", ("a",),
                      [], (("lot", True),), (("lot",),), (("lot", 1),) * 13, ("lot", 1), 0, None, {}, nested(14)]:
            for saying in [("atmost", thing, SUM), ("atmost", SUM, thing), ("equal", thing, SUM),
                           ("equal", SUM, thing), ("parts", 2, thing)]:
                self.assertIs(is_saying(TALK, saying), False, saying)
                self.assertIs(is_saying(TALK, ("both", PLAIN[0], saying)), False, saying)

    def test_no_term_of_the_talk(self):
        for thing in ["c", "n", "", ("not", "c"), ("all", "a"), (), [], None, 0, SUM, ["not", "a"], nested(14)]:
            for saying in [("within", thing, "a"), ("within", "a", thing), ("same", thing, "a"), ("same", "a", thing)]:
                self.assertIs(is_saying(TALK, saying), False, saying)
                self.assertIs(is_saying(TALK, ("either", saying, PLAIN[0])), False, saying)

    def test_of_another_talk(self):
        for saying in PLAIN + MADE:
            self.assertIs(is_saying(Talk(), saying), False, saying)
        self.assertIs(is_saying(Talk(("a", "b", "c"), ("m", "n"), most=1), MADE[2]), True)

    def test_nothing_else(self):
        for thing in [*no_texts(), "", "a", "not", [*PLAIN[0]], ["not", PLAIN[0]], ("nor", PLAIN[0], PLAIN[0]),
                      ("some", "c", PLAIN[0]), ("all", "c", PLAIN[0]), ("less", SUM, SUM), (None, SUM, SUM),
                      (["not"], PLAIN[0]), ({}, "a", "b"), ((), "a", "b"), (("not",), PLAIN[0]), ("", PLAIN[0]),
                      (PLAIN[0],), (PLAIN[0], PLAIN[0]), {"not": PLAIN[0]}, (True, "a", "b"), SUM, TERM]:
            self.assertIs(is_saying(TALK, thing), False, thing)
            for within in [("not", thing), ("both", thing, PLAIN[0]), ("either", PLAIN[0], thing)]:
                self.assertIs(is_saying(TALK, within), False, within)

    def test_lists_within(self):
        for saying in [("atmost", [("lot", 1)], ()), ("parts", 2, [("lot", 1)]), ("within", ["all"], "a"),
                       ("not", [*PLAIN[0]]), ("both", [*PLAIN[0]], PLAIN[0])]:
            self.assertIs(is_saying(TALK, saying), False, saying)

    def test_doubled_again_and_again(self):
        saying = PLAIN[3]
        for _ in range(15):
            saying = ("both", saying, saying)
        self.assertIs(is_saying(TALK, saying), False)


class NamesIn(unittest.TestCase):
    def test_of_each_word(self):
        for saying, told in [(PLAIN[0], ["a", "n"]), (PLAIN[1], ["a", "n"]), (PLAIN[2], ["a", "n"]),
                             (PLAIN[3], ["a", "b"]), (PLAIN[4], ["a", "b"]), (MADE[0], ["a", "n"]),
                             (MADE[2], ["a", "b"]), (("both", PLAIN[3], PLAIN[2]), ["a", "b", "n"]),
                             (("either", PLAIN[2], PLAIN[3]), ["a", "b", "n"])]:
            self.assertEqual(names_in(saying), told)
            self.assertEqual(names_in(("not", saying)), told)
        self.assertEqual(names_in(saying=("atmost", (("num", 1, "m"),), ())), ["m"])
        self.assertEqual(names_in(("atmost", (), (("num", 1, "m"),))), ["m"])
        self.assertEqual(names_in(("within", "x", "w")), ["w", "x"])

    def test_without_names(self):
        for saying in [("atmost", (), ()), ("equal", (("lot", 3),), ()), ("parts", 2, (("lot", 4),)),
                       ("within", ("none",), ("all",)), ("same", ("not", ("all",)), ("none",)),
                       ("not", ("both", ("atmost", (), ()), ("atmost", (("size", 1, ("all",)),), ())))]:
            self.assertEqual(names_in(saying), [])

    def test_each_once_and_rising(self):
        saying = ("both", ("within", ("and", "zb", "a"), ("or", "zb", "b")),
                  ("atmost", (("num", 1, "n"), ("size", 1, ("not", "aa"))), (("num", -1, "n"), ("num", 0, "m"))))
        self.assertEqual(names_in(saying), ["a", "aa", "b", "m", "n", "zb"])

    def test_names_that_are_words(self):
        saying = ("both", ("within", "all", ("not", "lot")), ("parts", 2, (("num", 1, "same"), ("size", 1, "not"))))
        self.assertEqual(names_in(saying), ["all", "lot", "not", "same"])

    def test_names_whose_addends_are_worth_nothing(self):
        self.assertEqual(names_in(("atmost", (("num", 0, "n"), ("size", 0, "a")), ())), ["a", "n"])

    def test_a_new_list_each_time(self):
        first = names_in(PLAIN[0])
        self.assertIs(type(first), list)
        first.append("z")
        self.assertEqual(names_in(PLAIN[0]), ["a", "n"])

    def test_a_saying_much_deeper(self):
        self.assertEqual(names_in(deep_saying(20000)), ["a", "b"])

    def test_what_is_handed_in_stays(self):
        for saying in PLAIN + MADE:
            given = copy.deepcopy(saying)
            names_in(given)
            is_saying(TALK, given)
            self.assertEqual(given, saying)


if __name__ == "__main__":
    unittest.main()
