import copy
import unittest

from countfold.cases import cases_many
from countfold.errors import NoSaying, NoSum, NoWorld, TooMany
from countfold.prover import asked
from countfold.ranges import ranged, shows_range
from countfold.reading import read_sum
from countfold.talks import Talk
from countfold.worlds import is_world
from tests import plainly
from tests.makers import NAMES, NUMBERS, Maker
from tests.test_prover import A_IN_B, SMALL, are_papers, many_cases, said, worlds_of
from tests.things import THIRTY, nested, no_texts, no_wholes, refused

TALK = Talk(("a", "b"), ("n",), most=5)
SUM = (("size", 2, "a"), ("num", -1, "n"))


class Checked(unittest.TestCase):
    def check(self, talk, sayings, total):
        """Least and greatest of the range, which is gone over."""
        told = ranged(talk, sayings, total=total)
        self.assertTrue(type(told) is tuple and len(told) == 6)
        least, world, papers, greatest, other_world, other_papers = told
        for worth, found in [(least, world), (greatest, other_world)]:
            self.assertIs(type(worth), int)
            self.assertTrue(is_world(talk, found))
            self.assertEqual(plainly.worth(talk, found, total), worth)
            self.assertTrue(all(plainly.truth(talk, found, saying) for saying in sayings))
        self.assertTrue(are_papers(talk, (*sayings, ("atmost", total, (("lot", least - 1),))), papers))
        self.assertTrue(are_papers(talk, (*sayings, ("atmost", (("lot", greatest + 1),), total)), other_papers))
        self.assertIs(shows_range(talk, sayings, told, total=total), True)
        return least, greatest


class Ranged(Checked):
    def test_told(self):
        for texts, text, least, greatest in [
                ([], "1 n", 0, 5), ([], "1 #{*}", 0, 5), ([], "2 #a + -1 n", -5, 10), ([], ".", 0, 0), ([], "7", 7, 7), ([], "-3 #{}", 0, 0),
                (["[2 <= 1 #(a & b)]", "[a in b]"], "3 #a + -2 #b", -4, 5), (["[2 | 1 n + 1]"], "1 n", 1, 5),
                (["~[2 | 1 n + 1]"], "1 n", 0, 4), (["[2 | 1 n]", "~[1 n = 2]", "[1 <= 1 n]"], "1 n + 1 #a", 4, 9),
                (["[1 n = 1 #a]", "[1 #a = 2 #b]"], "1 n + 1 #b", 0, 6), (["([1 n <= 1] or [1 n = 4])", "[1 <= 1 n]"], "2 n + -1", 1, 7),
                (["[2 #a = 3 #b]", "[b in a]", "[1 <= 1 #a]"], "10 #a", 30, 30)]:
            self.assertEqual(self.check(TALK, said(*texts), read_sum(text)), (least, greatest), (texts, text))

    def test_without_sayings_by_name(self):
        self.assertEqual(ranged(TALK, total=SUM), ranged(TALK, (), total=SUM))
        self.assertEqual(ranged(total=SUM, sayings=(A_IN_B,), talk=TALK), ranged(TALK, (A_IN_B,), total=SUM))

    def test_without_addends(self):
        for talk in SMALL:
            self.assertEqual(self.check(talk, (), ()), (0, 0))

    def test_against_all_worlds(self):
        maker = Maker(50)
        none = 0
        for _ in range(350):
            talk = maker.among(*SMALL)
            sayings, total = maker.sayings(talk, maker.whole(0, 3), 3), maker.sum(talk, maker.among(3, 9, THIRTY))
            if cases_many(sayings) > 32:
                continue
            worths = [plainly.worth(talk, world, total) for world in worlds_of(talk, sayings)]
            if worths:
                self.assertEqual(self.check(talk, sayings, total), (min(worths), max(worths)))
            else:
                none += 1
                refused(self, NoWorld, ranged, talk, sayings, total=total)
                self.assertIs(shows_range(talk, sayings, (0, None, (), 0, None, ()), total=total), False)
        self.assertGreater(none, 20)

    def test_worths_far_apart(self):
        talk = Talk(NAMES, NUMBERS, most=20)
        maker = Maker(51)
        for _ in range(8):
            total = tuple(("size", maker.whole(-THIRTY // 100, THIRTY // 100), term) for term in ("a", "b", ("and", "b", "c")))
            total += (("num", maker.whole(-THIRTY, THIRTY), "m"),)
            sayings = said("[7 | 1 #a + 2 #b + 3 #c + 1 m]", "~[5 | 1 m + 1 n + 1 #(a - b)]", "([3 <= 1 #(b & c)] or [a in c])")
            self.check(talk, sayings, total)

    def test_talks_of_most_20(self):
        maker = Maker(52)
        many = 0
        for _ in range(60):
            talk = Talk(NAMES, NUMBERS[:maker.whole(0, 2)], most=maker.whole(18, 20))
            sayings = maker.sayings(talk, maker.whole(0, 4), 3, most=maker.among(4, 99, THIRTY // 9))
            if cases_many(sayings) <= 32 and asked(talk, sayings)[0] == "yes":
                self.check(talk, sayings, maker.sum(talk, maker.among(4, 99, THIRTY // 9), addends=5))
                many += 1
        self.assertGreater(many, 20)

    def test_twelve_addends(self):
        total = (("size", 1, "a"), ("num", 1, "n"), ("lot", -1)) * 4
        self.assertEqual(self.check(TALK, (), total), (-4, 36))


class Refused(unittest.TestCase):
    def calls(self):
        yield lambda sayings, total: ranged(TALK, sayings, total=total)
        yield lambda sayings, total: shows_range(TALK, sayings, (), total=total)

    def test_the_first_that_is_no_saying(self):
        for call in self.calls():
            for thing in [*no_texts(), ("within", "a", "c"), ("some", "c", A_IN_B), plainly.deep_saying(7), nested(16)]:
                for sayings in [(thing,), (A_IN_B, thing, ["another"]), (many_cases(6), thing)]:
                    for total in (SUM, "no sum"):
                        self.assertIs(refused(self, NoSaying, call, sayings, total).saying, thing)

    def test_no_sum(self):
        for call in self.calls():
            for thing in [None, True, 0, THIRTY, "", "1 n", [], {}, ("lot", 1), (("lot", 1), None), (("num", 1, "m"),), (("num", 1, "a"),),
                          (("size", 1, "n"),), (("lot", True),), (("lot", 1),) * 13, nested(16), [("lot", 1)]]:
                for sayings in [(), (A_IN_B,), (many_cases(6),), said("[1 <= .]")]:
                    self.assertIs(refused(self, NoSum, call, sayings, thing).total, thing)

    def test_too_many(self):
        for call in self.calls():
            self.assertEqual(refused(self, TooMany, call, (many_cases(6),), SUM).many, 64)
            self.assertEqual(refused(self, TooMany, call, (many_cases(6), *said("[1 <= .]")), SUM).many, 64)
        self.assertEqual(ranged(TALK, (many_cases(5),), total=())[0], 0)

    def test_no_world(self):
        for texts in [["[1 <= .]"], ["[6 <= 1 n]"], ["[a in b]", "~[a in b]"], ["[2 | 1 n]", "[2 | 1 n + 1]"]]:
            refused(self, NoWorld, ranged, TALK, said(*texts), total=SUM)
            refused(self, NoWorld, ranged, TALK, said(*texts), total=())
            self.assertIs(shows_range(TALK, said(*texts), (0, ((0,) * 4, (0,)), (), 0, ((0,) * 4, (0,)), ()), total=()), False)


class ShowsRange(unittest.TestCase):
    SAYINGS = said("[2 <= 1 #a]", "[1 n <= 1 #b]")

    def test_one_step_off(self):
        told = ranged(TALK, self.SAYINGS, total=SUM)
        self.assertEqual((told[0], told[3]), (-1, 10))
        self.assertIs(shows_range(thing=told, total=SUM, sayings=self.SAYINGS, talk=TALK), True)
        other = ((0, 3, 0, 0), (0,))
        less = [told[:5], told + (None,), [*told], told[3:] + told[:3], ("yes", *told), ()]
        for at in range(6):
            for part in [None, (), True, told[at - 1], 0, 6, -2, 9, 11, "1", [told[at]], other, (list(told[1][0]), told[1][1])]:
                less.append(told[:at] + (part,) + told[at + 1:])
        for thing in less:
            self.assertIs(shows_range(TALK, self.SAYINGS, thing, total=SUM), False, thing)

    def test_truths_are_no_worths(self):
        for text, least, greatest in [("1 n", 1, 2), ("-1 n", -2, -1), ("1 n + -1", 0, 1), ("-1 n + 2", 0, 1), ("-1 n + 3", 1, 2)]:
            sayings, total = said("[1 <= 1 n]", "[1 n <= 2]"), read_sum(text)
            told = ranged(TALK, sayings, total=total)
            self.assertEqual((told[0], told[3]), (least, greatest))
            for at, worth in [(0, least), (3, greatest)]:
                thing = told[:at] + (bool(worth),) + told[at + 1:]
                self.assertIs(shows_range(TALK, sayings, thing, total=total), False)

    def test_another_world_of_that_worth(self):
        sayings, total = said("[1 <= 1 #{*}]"), (("num", 1, "n"),)
        told = ranged(TALK, sayings, total=total)
        for world in [((1, 0, 0, 0), (0,)), ((0, 0, 0, 5), (0,)), ((0, 1, 2, 0), (0,))]:
            self.assertIs(shows_range(TALK, sayings, told[:1] + (world,) + told[2:], total=total), True)
        for world in [((1, 0, 0, 0), (1,)), ((0, 0, 0, 0), (0,)), ((0, 0, 0, 6), (0,)), ((1, 0, 0), (0,))]:
            self.assertIs(shows_range(TALK, sayings, told[:1] + (world,) + told[2:], total=total), False)

    def test_of_others(self):
        told = ranged(TALK, self.SAYINGS, total=SUM)
        self.assertIs(shows_range(TALK, self.SAYINGS, told, total=SUM[:1]), False)
        self.assertIs(shows_range(TALK, self.SAYINGS[:1], told, total=SUM), False)
        self.assertIs(shows_range(Talk(("a", "b"), ("n",), most=6), self.SAYINGS, told, total=SUM), False)

    def test_of_anything(self):
        for thing in [*no_texts(), *no_wholes(), nested(16), (nested(14),) * 6, (0, nested(14), (), 0, nested(14), ())]:
            self.assertIs(shows_range(TALK, (), thing, total=()), False)
            self.assertIs(shows_range(TALK, self.SAYINGS, thing, total=SUM), False)


class StaysAsItWas(unittest.TestCase):
    def test_what_is_handed_in_and_the_answers(self):
        sayings, total = said("([1 <= 1 #a] or [2 | 1 n])"), SUM
        given, addends = copy.deepcopy(sayings), copy.deepcopy(total)
        self.assertEqual(ranged(TALK, given, total=addends), ranged(TALK, given, total=addends))
        self.assertEqual((given, addends), (sayings, total))


if __name__ == "__main__":
    unittest.main()
