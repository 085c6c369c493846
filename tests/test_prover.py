import copy
import unittest

from countfold.cases import cases_many, cases_of
from countfold.errors import NoSaying, TooMany
from countfold.papers import shows_no
from countfold.prover import asked, follows, shows_follows, shows_none
from countfold.reading import read_book, read_saying
from countfold.systems import system_of, width_of
from countfold.talks import Talk
from countfold.trims import rows_used
from countfold.worlds import is_world
from tests import adding, plainly
from tests.makers import NAMES, NUMBERS, Maker
from tests.things import THIRTY, nested, no_texts, no_wholes, refused

TALK = Talk(("a", "b"), ("n",), most=5)
A_IN_B, NO_A = ("within", "a", "b"), ("same", "a", ("none",))
SMALL = [Talk(NAMES[:sets], NUMBERS[:numbers], most=most)
         for sets, numbers, most in [(0, 0, 2), (0, 1, 4), (0, 2, 3), (1, 0, 4), (1, 1, 3), (1, 2, 2), (2, 0, 3), (2, 1, 2), (3, 0, 2)]]


def said(*texts):
    return tuple(read_saying(text) for text in texts)


def many_cases(many):
    """A saying of so many equal ones and not, joined: of 2 ** many cases."""
    layer = [("not", ("equal", (("size", 1, "a"),), ()))] * many
    while len(layer) > 1:
        layer = [("both", *layer[at:at + 2]) if at + 1 < len(layer) else layer[at] for at in range(0, len(layer), 2)]
    return layer[0]


def worlds_of(talk, sayings):
    """Each world of a small talk in which all sayings are true."""
    return [world for world in plainly.all_worlds(talk)
            if all(plainly.truth(talk, world, saying) for saying in sayings)]


def are_papers(talk, sayings, papers):
    cases = cases_of(talk, sayings)
    return type(papers) is tuple and len(papers) == len(cases) and all(
        adding.is_paper(system_of(talk, case), paper, width_of(talk, case)) for case, paper in zip(cases, papers))


class Checked(unittest.TestCase):
    def check(self, talk, sayings):
        """The word of what is asked, which is gone over."""
        answer = asked(talk, sayings)
        self.assertEqual(len(answer), 2)
        word, found = answer
        if word == "yes":
            self.assertTrue(is_world(talk, found))
            self.assertTrue(all(plainly.truth(talk, found, saying) for saying in sayings), (sayings, found))
            self.assertIs(shows_none(talk, sayings, found), False)
        else:
            self.assertEqual(word, "no")
            self.assertTrue(are_papers(talk, sayings, found), sayings)
            self.assertIs(shows_none(talk, sayings, found), True)
        return word


class Asked(Checked):
    def test_no_sayings(self):
        for talk in SMALL:
            self.assertEqual(self.check(talk, ()), "yes")

    def test_told(self):
        for texts, word in [(["[3 <= 1 #a]", "[a in b]", "[1 #b <= 2]"], "no"), (["[3 <= 1 #a]", "[a in b]", "[1 #b <= 3]"], "yes"),
                            (["[6 <= 1 #{*}]"], "no"), (["[5 <= 1 #{*}]"], "yes"), (["[6 <= 1 n]"], "no"), (["[1 n = 5]"], "yes"),
                            (["[2 | 1 n]", "[2 | 1 n + 1]"], "no"), (["[2 | 1 n]", "~[4 | 1 n]"], "yes"),
                            (["[3 | 1 n]", "~[3 | 2 n]"], "no"), (["[2 | 1 #a]", "[2 | 1 #!a]", "~[2 | 1 #{*}]"], "no"),
                            (["~[a in b]", "~[b in a]", "[1 #{*} <= 1]"], "no"), (["~[a in b]", "~[b in a]", "[1 #{*} <= 2]"], "yes"),
                            (["~[a is a]"], "no"), (["[. = 1]"], "no"), (["[2 | 1]"], "no"), (["~[2 | 1]"], "yes"),
                            (["([a in {}] or [b in {}])", "~[{} is (a & b)]"], "no")]:
            self.assertEqual(self.check(TALK, said(*texts)), word, texts)
        self.assertEqual(asked(sayings=said("[1 n = 5]", "[5 = 1 #(a & b)]"), talk=TALK), ("yes", ((0, 0, 0, 5), (5,))))

    def test_papers_one_for_each_case_in_order(self):
        sayings = said("([3 <= 1 #a] or [2 | 2 n + 1])", "[1 #{*} <= 1]", "~[1 n = 1 n]")
        word, papers = asked(TALK, sayings)
        self.assertEqual((word, len(papers)), ("no", 4))
        self.assertTrue(are_papers(TALK, sayings, papers))

    def test_against_all_worlds(self):
        maker = Maker(40)
        words = []
        for talk in SMALL:
            for _ in range(60):
                sayings = maker.sayings(talk, maker.whole(1, 3), 4)
                if cases_many(sayings) > 32:
                    self.assertEqual(refused(self, TooMany, asked, talk, sayings).many, cases_many(sayings))
                    continue
                words.append(self.check(talk, sayings))
                self.assertEqual(words[-1] == "yes", bool(worlds_of(talk, sayings)), sayings)
        self.assertGreater(min(words.count("yes"), words.count("no")), 100)

    def test_parts_and_unparts_against_all_worlds(self):
        maker = Maker(41)
        words = []
        for _ in range(200):
            talk = maker.among(*SMALL[1:])
            parts = [("parts", maker.whole(2, 5), maker.sum(talk, 5)) for _ in range(maker.whole(2, 4))]
            sayings = tuple(maker.among(part, ("not", part)) for part in parts)
            words.append(self.check(talk, sayings))
            self.assertEqual(words[-1] == "yes", bool(worlds_of(talk, sayings)), sayings)
        self.assertGreater(min(words.count("yes"), words.count("no")), 30)

    def test_talks_of_most_20(self):
        maker = Maker(42)
        words = []
        for _ in range(120):
            talk = Talk(NAMES, NUMBERS[:maker.whole(0, 2)], most=maker.whole(18, 20))
            sayings = maker.sayings(talk, maker.whole(1, 5), 3, most=maker.among(4, 99, THIRTY // 9))
            if cases_many(sayings) <= 32:
                words.append(self.check(talk, sayings))
        self.assertGreater(min(words.count("yes"), words.count("no")), 15)

    def test_thirty_two_cases_of_twelve_unknowns(self):
        talk = Talk(NAMES, NUMBERS, most=20)
        either = said("([1 #a <= 1 #b] or [1 #b <= 1 #c])", "([1 #b <= 1 #a] or [1 #c <= 1 #(a + b)])", "~[1 m = 1 n]",
                      "~[3 #a = 2 #b + 1]", "([3 <= 1 #(a & b)] or [a in c])")
        hard = said("[97 | 31 #a + 57 #(b - c) + 11 #(a & c) + 5 m]", "[89 | 13 #b + 71 #(a - c) + 29 n + 1]")
        self.assertEqual(cases_many(either), 32)
        self.assertEqual({width_of(talk, case) for case in cases_of(talk, either + hard)}, {12})
        self.check(talk, either + hard)
        self.assertEqual(self.check(talk, either + hard[:1]), "yes")
        none = said("[40 <= 1 m + 1 n + 1 #{*}]", "[1 #{*} = 1 #(a & b)]", "[2 | 1 n + 1 #{*} + 1 m + 1]", "[2 | 1 m + 1 n + 1 #{*}]")
        self.assertEqual(self.check(talk, either + none), "no")

    def test_hard_parts(self):
        talk = Talk(NAMES, NUMBERS, most=20)
        maker = Maker(43)
        words = []
        for figures in (2, 4, 6, 9, 12, 20, 29):
            for _ in range(3):
                sums = [tuple(("size", maker.whole(1, 10 ** figures), term)
                              for term in ("a", "b", "c", ("and", "a", "b"), ("and", "b", "c"), ("and", "a", "c"), ("all",)))
                        + (("num", maker.whole(1, 10 ** figures), "m"), ("lot", 1)) for _ in range(2)]
                sayings = tuple(("parts", 10 ** figures + maker.whole(0, 9), total) for total in sums)
                words += [self.check(talk, sayings[:1]), self.check(talk, sayings)]
        self.assertGreater(min(words.count("yes"), words.count("no")), 5)


class Refused(unittest.TestCase):
    def calls(self):
        yield lambda sayings, **more: asked(TALK, sayings)
        yield lambda sayings, **more: shows_none(TALK, sayings, ())
        yield lambda sayings, **more: follows(TALK, sayings, saying=more.get("saying", A_IN_B))
        yield lambda sayings, **more: shows_follows(TALK, sayings, (), saying=more.get("saying", A_IN_B))

    def test_the_first_that_is_no_saying(self):
        for thing in [*no_texts(), ("within", "a", "c"), ("within", "a"), ("some", "c", A_IN_B), ("parts", 1, ()), plainly.deep_saying(7),
                      plainly.broad_saying(25), ["within", "a", "b"], "[a in b]", nested(16)]:
            for call in self.calls():
                for sayings in [(thing,), (A_IN_B, thing), (thing, ["another"]), (many_cases(6), thing), (NO_A, thing, many_cases(6))]:
                    self.assertIs(refused(self, NoSaying, call, sayings).saying, thing)
                self.assertIs(refused(self, NoSaying, call, (A_IN_B, thing), saying=["another"]).saying, thing)
            for call in (follows, lambda talk, sayings, *, saying: shows_follows(talk, sayings, (), saying=saying)):
                for sayings in [(), (A_IN_B,), (many_cases(6),)]:
                    self.assertIs(refused(self, NoSaying, call, TALK, sayings, saying=thing).saying, thing)

    def test_too_many(self):
        for call in self.calls():
            self.assertEqual(refused(self, TooMany, call, (many_cases(6),)).many, 64)
            self.assertEqual(refused(self, TooMany, call, (many_cases(5), NO_A, many_cases(5))).many, 1024)
            call((many_cases(5),))

    def test_too_many_of_the_sayings_and_not_of_the_other(self):
        equal = ("equal", (), ())
        for sayings, saying, many in [((), ("not", many_cases(6)), 64), ((many_cases(5),), equal, 64), ((many_cases(4),), ("both", equal, A_IN_B), 48),
                                      ((many_cases(5),), ("not", ("not", equal)), 64)]:
            self.assertEqual(refused(self, TooMany, follows, TALK, sayings, saying=saying).many, many)
            self.assertEqual(refused(self, TooMany, shows_follows, TALK, sayings, (), saying=saying).many, many)
        # Of the saying itself there may be more.
        follows(TALK, (), saying=many_cases(8))
        follows(TALK, (many_cases(4),), saying=equal)


class ShowsNone(unittest.TestCase):
    SAYINGS = said("([3 <= 1 #a] or [2 | 2 n + 1])", "[1 #{*} <= 1]")

    def test_one_step_off(self):
        word, papers = asked(TALK, self.SAYINGS)
        self.assertEqual((word, len(papers)), ("no", 2))
        one, other = papers
        self.assertIs(shows_none(thing=(one, other), sayings=self.SAYINGS, talk=TALK), True)
        for thing in [(one,), (other,), (other, one), (one, other, one), (one, one), (other, other), [one, other], (list(one), other), (),
                      ("no", papers), (papers,), (one, None), (one, ()), (one, other[:-1])]:
            self.assertIs(shows_none(TALK, self.SAYINGS, thing), False)
        self.assertIs(shows_none(TALK, self.SAYINGS[::-1], papers), False)
        self.assertIs(shows_none(TALK, self.SAYINGS[:1], papers), False)
        self.assertIs(shows_none(TALK, (), ()), False)

    def test_of_anything(self):
        for thing in [*no_texts(), *no_wholes(), nested(16), (nested(14), nested(14)), ((("clash", nested(12)),),) * 2]:
            self.assertIs(shows_none(TALK, self.SAYINGS, thing), False)
            self.assertIs(shows_none(TALK, (), thing), False)
            self.assertIs(shows_follows(TALK, (), thing, saying=A_IN_B), False)


class GreaterMost(unittest.TestCase):
    def test_papers_that_use_no_row_of_most(self):
        maker = Maker(44)
        many = 0
        for _ in range(200):
            talk = maker.among(*SMALL[3:])
            sayings = maker.sayings(talk, maker.whole(1, 3), 3)
            if cases_many(sayings) > 32:
                continue
            word, papers = asked(talk, sayings)
            for case, paper in zip(cases_of(talk, sayings), papers if word == "no" else ()):
                bounds = range(1 + len(talk.numbers()))
                used = rows_used(system_of(talk, case), paper)
                if not any(piece[0] in ("parts", "unparts") for piece in case) and not set(used) & set(bounds):
                    many += 1
                    for most in (talk.most() + 1, 100, THIRTY):
                        greater = Talk(talk.sets(), talk.numbers(), most=most)
                        self.assertIs(shows_no(system_of(greater, case), paper, width=width_of(greater, case)), True)
        self.assertGreater(many, 30)

    def test_of_all_cases(self):
        sayings = said("[a in b]", "[1 #b <= 2]", "[3 <= 1 #a]")
        papers = ((("clash", (0, 0, -1, 1, 1)),),)
        for most in (1, 5, 6, 100, THIRTY):
            self.assertIs(shows_none(Talk(("a", "b"), ("n",), most=most), sayings, papers), True)
        # That of most alone: there are no more than 2 things.
        papers = ((("clash", (1, 0, 0, 0, 1)),),)
        for most in (1, 2, 3, 100, THIRTY):
            self.assertIs(shows_none(Talk(("a", "b"), ("n",), most=most), sayings, papers), most <= 2)


class Follows(unittest.TestCase):
    def check(self, talk, sayings, saying):
        answer = follows(talk, sayings, saying=saying)
        word, found = answer
        turned = sayings + (("not", saying),)
        if word == "yes":
            self.assertTrue(are_papers(talk, turned, found))
            self.assertIs(shows_follows(talk, sayings, found, saying=saying), True)
            self.assertIs(shows_follows(talk, sayings, answer, saying=saying), False)
        else:
            self.assertEqual(word, "no")
            self.assertTrue(is_world(talk, found))
            self.assertTrue(all(plainly.truth(talk, found, part) for part in turned))
            self.assertIs(shows_follows(talk, sayings, found, saying=saying), False)
        return word

    def test_told(self):
        for texts, text, word in [([], "[a is a]", "yes"), ([], "[a in b]", "no"), (["[a in b]"], "[1 #a <= 1 #b]", "yes"),
                                  (["[1 #a <= 1 #b]"], "[a in b]", "no"), (["[4 | 1 n]"], "[2 | 1 n]", "yes"),
                                  (["[2 | 1 n]"], "[4 | 1 n]", "no"), ([], "[1 n <= 5]", "yes"), ([], "[1 n <= 4]", "no"),
                                  (["[a in b]", "[b in a]"], "[a is b]", "yes"), (["[. = 1]"], "[a in b]", "yes"),
                                  (["[1 n = 3]"], "([1 n <= 1] or [2 <= 1 n])", "yes")]:
            self.assertEqual(self.check(TALK, said(*texts), read_saying(text)), word, (texts, text))
        self.assertEqual(follows(saying=A_IN_B, sayings=(A_IN_B,), talk=TALK)[0], "yes")

    def test_against_all_worlds(self):
        maker = Maker(45)
        words = []
        for _ in range(250):
            talk = maker.among(*SMALL)
            sayings, saying = maker.sayings(talk, maker.whole(0, 2), 3), maker.saying(talk, 3)
            if cases_many(sayings + (("not", saying),)) <= 32:
                words.append(self.check(talk, sayings, saying))
                worlds = worlds_of(talk, sayings)
                self.assertEqual(words[-1] == "yes", all(plainly.truth(talk, world, saying) for world in worlds))
        self.assertGreater(min(words.count("yes"), words.count("no")), 40)

    def test_the_deepest_saying(self):
        self.assertEqual(self.check(TALK, (), plainly.deep_saying(6, ("same", "a", "a"))), "no")
        self.assertEqual(self.check(TALK, (), plainly.deep_saying(5, ("same", "a", "a"))), "yes")
        self.assertEqual(self.check(TALK, (), ("not", plainly.broad_saying(21, ("same", "a", "b")))), "no")

    def test_papers_of_others_do_not_show_it(self):
        papers = follows(TALK, (A_IN_B,), saying=("atmost", (("size", 1, "a"),), (("size", 1, "b"),)))[1]
        self.assertIs(shows_follows(TALK, (), papers, saying=A_IN_B), False)
        self.assertIs(shows_follows(TALK, (A_IN_B,), papers, saying=NO_A), False)
        self.assertIs(shows_none(TALK, (A_IN_B,), papers), False)


class StaysAsItWas(unittest.TestCase):
    def test_what_is_handed_in_and_the_answers(self):
        talk, sayings = read_book("a,b;n;5\n([3 <= 1 #a] or [2 | 2 n + 1])\n[1 #{*} <= 1]")
        given = copy.deepcopy(sayings)
        answers = [(asked(talk, given), follows(talk, given, saying=A_IN_B), follows(talk, given[1:], saying=A_IN_B))
                   for _ in range(2)]
        self.assertEqual(answers[0], answers[1])
        self.assertEqual(given, sayings)
        self.assertEqual(talk, TALK)


if __name__ == "__main__":
    unittest.main()
