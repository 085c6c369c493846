import itertools
import math
import unittest

from countfold.brinks import always, answer, are_alike_by, brink, cut_counts, is_simple, true_of
from countfold.broad import is_broad, is_true_broad, shares
from countfold.errors import NoSaying, TooMany
from countfold.reading import read_saying
from countfold.talks import Talk
from tests import broadly, plainly
from tests.makers import NAMES, NUMBERS, Maker
from tests.test_broad import inside, joined
from tests.things import THIRTY, nested, no_texts, no_wholes, refused

TALK = Talk(("b",), ("n",), most=5)


def some_simple(maker, talk, most=2):
    """A simple saying, broad or plain."""
    saying = None
    while saying is None or not is_broad(talk, saying):
        if maker.whole(0, 3):
            saying = broadly.some_broad(maker, talk, maker.whole(2, 4), broadly.simple(maker, most))
        else:
            saying = broadly.broad(maker, Talk(NAMES, NUMBERS), 3, lambda _: broadly.simple(maker, most)(talk))
    return saying


def depth_of(saying):
    """How many some, all stand within one another."""
    if saying[0] in ("some", "all"):
        return 1 + depth_of(saying[2])
    return max([depth_of(part) for part in saying[1:]]) if saying[0] in ("not", "both", "either") else 0


def tuples(count, many):
    """How many tuples of so many whole numbers from 0 on add up to a count."""
    return sum(1 for found in itertools.product(range(count + 1), repeat=many) if sum(found) == count)


class IsSimple(unittest.TestCase):
    def test_told(self):
        for text, told in [("[3 <= 1 #b]", True), ("[1 #b <= 3]", True), ("[0 = 1 #(b & !b)]", True), ("[1 #{*} = 9]", True), ("[b in {}]", True), ("[b is {*}]", True),
                           ("some a ([1 #a = 2] and ~all c [1 #c <= 1])", True), ("~[9 <= 1 #b]", True), ("[10 <= 1 #b]", False), ("[1 #b = 10]", False), ("[-1 <= 1 #b]", False),
                           ("[2 #b <= 3]", False), ("[0 #b <= 3]", False), ("[-1 #b <= 3]", False), ("[1 #b <= 1 #b]", False), ("[1 <= 2]", False), ("[. <= 1 #b]", False), ("[1 #b = .]", False),
                           ("[1 n <= 3]", False), ("[3 <= 1 n]", False), ("[1 #b + 1 <= 3]", False), ("[1 #b <= 3 + 0]", False), ("[1 #b + 1 #b <= 3]", False), ("[2 | 1 #b]", False), ("[2 | 3]", False),
                           ("some a [1 #a = 1 n]", False), ("(some a [1 #a = 2] or [2 | 1 #b])", False), ("all a [1 #a <= 12]", False), ("[a in b]", False), ("some n [n in b]", False)]:
            self.assertIs(is_simple(TALK, read_saying(text)), told, text)
        self.assertIs(is_simple(thing=read_saying("[3 <= 1 #b]"), talk=TALK), True)

    def test_each_word_of_sums_either_way(self):
        lot, size = (("lot", 3),), (("size", 1, "b"),)
        for word, first, second in itertools.product(("atmost", "equal", "parts"), (lot, size), (lot, size)):
            self.assertIs(is_simple(TALK, (word, first, second)), word != "parts" and first != second)

    def test_anything(self):
        for thing in [*no_texts(), *no_wholes(), nested(16), ("atmost", (("lot", True),), (("size", 1, "b"),)), ("atmost", (("lot", 1),), (("size", True, "b"),)), ("some", "b", ("within", "b", "b")),
                      ["within", "b", "b"], joined(*[("some", "a", ("within", "b", "b"))] * 5), inside(("within", "b", "b"), *["not"] * 6)]:
            self.assertIs(is_simple(TALK, thing), False)


class Brink(unittest.TestCase):
    def test_told(self):
        for text, told in [("[b in b]", 1), ("[0 <= 1 #b]", 1), ("[1 #b <= 9]", 10), ("([1 #b <= 3] or [5 = 1 #b])", 6), ("some a [a in b]", 2), ("some a [1 #a = 2]", 6), ("some a all c [a in c]", 4),
                           ("some a (all c [1 #c = 4] and [1 #a = 1])", 20), ("(some a [1 #a = 2] and [1 #b = 7])", 16), ("(some a [a in b] or all a [b in a])", 2), ("~some a ~all c ~some d [1 #d = 9]", 80),
                           ("~~[1 #b = 2]", 3), ("([1 #b <= 5] and some a [a in b])", 12)]:
            self.assertEqual(brink(read_saying(text)), told, text)
        self.assertEqual(brink(saying=read_saying("[1 #b <= 9]")), 10)


class Alike(unittest.TestCase):
    def test_told(self):
        for counts, others, bound, told in [((1, 2), (1, 2), 9, True), ((9, 2), (10, 2), 9, True), ((8, 2), (10, 2), 9, False), ((9, 2), (8, 2), 9, False), ((8, 2), (7, 2), 9, False),
                                            ((9, THIRTY), (THIRTY, 9), 9, True), ((THIRTY,), (THIRTY + 1,), THIRTY, True), ((THIRTY - 1,), (THIRTY,), THIRTY, False), ((0,), (5,), 0, True), ((0, 0, 0, 1), (0, 0, 0, 2), 1, True),
                                            ((0, 0, 0, 1), (0, 0, 0, 0), 1, False)]:
            self.assertIs(are_alike_by(counts, others, bound), told, (counts, others, bound))
            self.assertIs(are_alike_by(brink=bound, others=counts, counts=others), told)

    def test_cut(self):
        self.assertEqual(cut_counts((0, 5, 6, 7, THIRTY), 6), (0, 5, 6, 6, 6))
        self.assertEqual(cut_counts(brink=0, counts=(3,)), (0,))
        for counts in itertools.product(range(5), repeat=2):
            for bound in range(5):
                self.assertEqual(cut_counts(counts, bound), tuple(min(count, bound) for count in counts))
                self.assertIs(are_alike_by(counts, cut_counts(counts, bound), bound), True)

    def test_answer(self):
        for bound in range(1, 4):
            for count, other in itertools.product(range(10), repeat=2):
                if count == other or min(count, other) >= 2 * bound:
                    for within in range(count + 1):
                        [told] = answer((count,), (other,), (within,), bound)
                        self.assertTrue(0 <= told <= other)
                        self.assertIs(are_alike_by((within, count - within), (told, other - told), bound), True, (count, other, within, bound))
        self.assertIs(type(answer((3, 8), (3, 9), (1, 2), 4)), tuple)
        self.assertEqual(answer(brink=4, share=(1, 2), others=(3, 9), counts=(3, 8)), (1, 2))

    def test_answers_of_thirty_figures(self):
        maker = Maker(126)
        for _ in range(300):
            bound = maker.among(1, 5, 80, THIRTY // 9)
            regions = maker.among(1, 2, 4, 8)
            counts = tuple(maker.among(maker.whole(0, 2 * bound - 1), 2 * bound, maker.whole(2 * bound, THIRTY)) for _ in range(regions))
            others = tuple(count if count < 2 * bound else maker.among(2 * bound, maker.whole(2 * bound, THIRTY)) for count in counts)
            share = tuple(maker.among(0, count, min(count, bound - 1), min(count, bound), max(0, count - bound), maker.whole(0, count)) for count in counts)
            self.assertIs(are_alike_by(counts, others, 2 * bound), True)
            told = answer(counts, others, share, bound)
            self.assertEqual(len(told), regions)
            self.assertTrue(all(0 <= part <= other for part, other in zip(told, others)))
            self.assertIs(are_alike_by(share, told, bound), True)
            self.assertIs(are_alike_by([a - b for a, b in zip(counts, share)], [a - b for a, b in zip(others, told)], bound), True)


class TrueOf(unittest.TestCase):
    def test_told(self):
        for text, counts, told in [("[3 <= 1 #b]", (0, 3), True), ("[3 <= 1 #b]", (THIRTY, 2), False), ("[3 <= 1 #b]", (0, THIRTY), True), ("[b in {}]", (THIRTY, 0), True), ("[1 #b = 9]", (0, 10), False),
                                   ("some a ([1 #a = 2] and [a in b])", (0, 2), True), ("some a ([1 #a = 2] and [a in b])", (THIRTY, 1), False), ("some a ([1 #a = 2] and [a in b])", (0, THIRTY), True),
                                   ("some a some c (([1 #a = 1] and [1 #c = 1]) and [(a & c) is {}])", (0, 2), True), ("some a some c (([1 #a = 1] and [1 #c = 1]) and [(a & c) is {}])", (1, 0), False),
                                   ("all a some c [a is !c]", (5, THIRTY), True)]:
            self.assertIs(true_of(TALK, counts, read_saying(text)), told, (text, counts))
        self.assertIs(true_of(saying=read_saying("[3 <= 1 #b]"), counts=(0, 3), talk=TALK), True)

    def looks(self, talk, counts, saying):
        return math.prod(tuples(min(count, brink(saying)), 2 ** depth_of(saying)) for count in counts)

    def test_against_all_sets_of_the_things(self):
        maker = Maker(127)
        truths = []
        for _ in range(150):
            talk = maker.among(Talk(most=1), Talk(("a",), NUMBERS, most=1), Talk(("a", "b"), most=1))
            saying = some_simple(maker, talk)
            counts = tuple(maker.whole(0, 5 if talk.regions() == 1 else 2) for _ in range(talk.regions()))
            if depth_of(saying) > 2 or self.looks(talk, counts, saying) > 5000:
                continue
            world = (counts, (0,) * len(talk.numbers()))
            truths.append(true_of(talk, counts, saying))
            self.assertIs(truths[-1], broadly.truth(talk, world, saying), (saying, counts))
            if sum(counts) <= 5:
                self.assertIs(truths[-1], is_true_broad(talk, world, saying))
        self.assertGreater(min(truths.count(True), truths.count(False)), 30)

    def test_alike_by_the_brink(self):
        maker = Maker(128)
        many = 0
        for _ in range(300):
            talk = maker.among(Talk(most=1), Talk(("a",), most=1), Talk(("a", "b"), ("n",), most=1))
            saying = some_simple(maker, talk, maker.among(0, 1, 2))
            bound = brink(saying)
            counts = tuple(maker.whole(0, bound + 2) for _ in range(talk.regions()))
            others = tuple(count if count < bound else maker.among(bound, bound + 1, THIRTY) for count in counts)
            try:
                told = true_of(talk, counts, saying)
            except TooMany:
                continue
            many += 1
            self.assertIs(true_of(talk, others, saying), told)
            self.assertIs(true_of(talk, cut_counts(counts, bound), saying), told)
            if bound <= 2 and sum(counts) < 9:
                self.assertIs(broadly.truth(talk, (counts, (0,) * len(talk.numbers())), saying), told)
        self.assertGreater(many, 100)

    def test_each_share_of_alike_counts_has_an_answer(self):
        # Counts alike by twice a brink: with the answer, what is within is true alike.
        maker = Maker(129)
        for _ in range(60):
            talk = Talk(("a",), most=1)
            inner = broadly.simple(maker, 1)(Talk(("a", "b"), most=1))
            bound = brink(inner)
            counts = tuple(maker.whole(0, 2 * bound + 1) for _ in range(2))
            others = tuple(count if count < 2 * bound else maker.whole(2 * bound, 2 * bound + 3) for count in counts)
            for share in itertools.product(*[range(count + 1) for count in counts]):
                told = answer(counts, others, share, bound)
                first = (counts[0] - share[0], counts[1] - share[1], *share)
                second = (others[0] - told[0], others[1] - told[1], *told)
                wide = Talk(("a", "b"), most=THIRTY)
                self.assertIs(is_true_broad(wide, (first, ()), inner), is_true_broad(wide, (second, ()), inner))


class Refused(unittest.TestCase):
    def test_no_saying(self):
        for thing in [*no_texts(), ("within", "a", "b"), ("parts", 2, ()), read_saying("[1 n <= 3]"), read_saying("some a [1 #a = 10]"), read_saying("[2 #b <= 3]"), ("some", "b", ("within", "b", "b")), nested(16)]:
            self.assertIs(refused(self, NoSaying, true_of, TALK, (THIRTY, THIRTY), thing).saying, thing)
            self.assertIs(refused(self, NoSaying, always, TALK, thing).saying, thing)

    def test_too_many_of_counts(self):
        talk = Talk(("b",), most=5)
        for words, lot, counts in [(["some a"], 9, (20, 20)), (["some a"], 9, (THIRTY, 0)), (["some a", "all c"], 0, (4, 4)), (["some a", "all c"], 3, (16, 1)), (["some a", "all c"], 9, (THIRTY, 3)),
                                   (["some a", "all c"], 2, (5, 9)), (["not", "all a"], 9, (19, 300))]:
            saying = inside(("atmost", (("lot", lot),), (("size", 1, "b"),)), *words)
            many = math.prod(tuples(min(count, brink(saying)), 2 ** depth_of(saying)) if min(count, brink(saying)) < 13 else
                             math.comb(min(count, brink(saying)) + 2 ** depth_of(saying) - 1, 2 ** depth_of(saying) - 1) for count in counts)
            if many > 5000:
                self.assertEqual(refused(self, TooMany, true_of, talk, counts, saying).many, many)
            else:
                self.assertIn(true_of(talk, counts, saying), (True, False))
        # Three of which each splits all in two: a tuple of eight.
        saying = inside(("within", "a", "c"), "some a", "some c", "some d")
        self.assertEqual(brink(saying), 8)
        for count in range(12):
            many = math.comb(min(count, 8) + 7, 7)
            if many > 5000:
                self.assertEqual(refused(self, TooMany, true_of, Talk(), (count,), saying).many, many)
            else:
                self.assertIs(true_of(Talk(), (count,), saying), True)

    def test_just_five_thousand(self):
        # Of one word: a count has as many looks as it is, and 1.
        saying = inside(("atmost", (("lot", 9),), (("size", 1, "c"),)), "some c")
        for sets, counts, many in [(2, (3, 4, 9, 24), 4 * 5 * 10 * 21), (2, (4, 4, 9, 19), 5000), (2, (4, 4, 9, 20), 5250), (2, (20, 20, 20, 0), 21 ** 3), (2, (THIRTY, 20, 10, 0), 21 * 21 * 11), (2, (THIRTY, 20, 9, 0), 4410)]:
            talk = Talk(NAMES[:sets], most=1)
            if many > 5000:
                self.assertEqual(refused(self, TooMany, true_of, talk, counts, ("some", "d", ("atmost", (("lot", 9),), (("size", 1, "d"),)))).many, many)
            else:
                self.assertIs(true_of(talk, counts, ("some", "d", ("atmost", (("lot", 9),), (("size", 1, "d"),)))), True)
        self.assertEqual(brink(saying), 20)

    def test_too_many_of_all_counts(self):
        for sets, words, lot in [(0, [], 9), (1, [], 9), (2, [], 7), (2, [], 8), (3, [], 0), (3, [], 1), (3, [], 2), (0, ["some d"], 9), (1, ["some d"], 4), (1, ["some d"], 5), (1, ["all d"], 9), (2, ["all d"], 0),
                                 (2, ["all d"], 1), (0, ["all d", "some e"], 1), (0, ["all d", "some e"], 2), (0, ["all d", "some e"], 9), (1, ["all d", "some e"], 0), (0, ["all d", "some e", "all g"], 0), (0, ["all d", "some e", "all g"], 9)]:
            talk = Talk(NAMES[:sets], NUMBERS, most=1)
            saying = inside(("atmost", (("lot", lot),), (("size", 1, ("all",)),)), *words)
            many = math.comb(brink(saying) + 2 ** len(words), 2 ** len(words)) ** talk.regions()
            if many > 5000:
                self.assertEqual(refused(self, TooMany, always, talk, saying).many, many)
            else:
                self.assertEqual(always(talk, saying)[0], "yes" if lot == 0 else "no")

    def test_how_many_are_counted(self):
        for count, many in itertools.product(range(4), (1, 2, 4)):
            self.assertEqual(tuples(count, many), math.comb(count + many - 1, many - 1))


class Always(unittest.TestCase):
    def test_told(self):
        for text, told in [("[b in b]", ("yes", 1)), ("[0 <= 1 #b]", ("yes", 1)), ("([1 #b <= 3] or [3 <= 1 #b])", ("yes", 4)), ("all a some c [a is !c]", ("yes", 4)), ("some a [a is b]", ("yes", 2)), ("([1 #b <= 3] or [4 <= 1 #b])", ("yes", 5)),
                           ("all a ([a in b] or [1 <= 1 #(a - b)])", ("yes", 4))]:
            self.assertEqual(always(TALK, read_saying(text)), told, text)
        for text in ["[b in {}]", "[1 #b <= 3]", "([1 #b <= 3] or [5 <= 1 #b])", "some a [1 #a = 2]", "all a [a in b]", "~[1 #{*} = 4]", "([b in {}] or some a ([a in b] and [1 #a = 1]))", "(some a [1 #a = 2] or [1 #b <= 0])"]:
            saying = read_saying(text)
            if text == "([b in {}] or some a ([a in b] and [1 #a = 1]))":
                self.assertEqual(always(TALK, saying), ("yes", 4))
                continue
            word, counts = always(TALK, saying)
            self.assertEqual(word, "no")
            self.assertLessEqual(max(counts), brink(saying))
            self.assertIs(broadly.truth(TALK, (counts, (0,)), saying), False)
        self.assertEqual(always(saying=read_saying("[b in b]"), talk=TALK), ("yes", 1))

    def test_against_counts(self):
        maker = Maker(130)
        words = []
        for _ in range(250):
            talk = maker.among(Talk(most=1), Talk(("a",), most=1), Talk(("a",), NUMBERS, most=1), Talk(("a", "b"), most=1), Talk(NAMES, most=1))
            leaf = broadly.simple(maker, maker.among(0, 1, 2, 4))
            saying = maker.among(broadly.some_broad(maker, talk, 3, leaf) if len(talk.sets()) < 3 else leaf(talk), ("either", leaf(talk), ("not", leaf(talk))))
            try:
                word, told = always(talk, saying)
            except TooMany:
                continue
            words.append(word)
            bound = brink(saying)
            if word == "no":
                self.assertEqual((len(told), type(told)), (talk.regions(), tuple))
                self.assertLessEqual(max(told), bound)
                self.assertIs(true_of(talk, told, saying), False)
            else:
                self.assertEqual(told, bound)
                for _ in range(10):
                    counts = tuple(maker.among(maker.whole(0, bound), bound + 1, THIRTY) for _ in range(talk.regions()))
                    try:
                        self.assertIs(true_of(talk, counts, saying), True)
                    except TooMany:
                        pass
            if talk.regions() <= 2 and depth_of(saying) < 2:
                small = [counts for counts in itertools.product(range(bound + 1), repeat=talk.regions()) if sum(counts) < 7]
                falses = [counts for counts in small if not broadly.truth(talk, (counts, (0,) * len(talk.numbers())), saying)]
                if falses:
                    self.assertEqual(word, "no")
        self.assertGreater(min(words.count("yes"), words.count("no")), 20)

    def test_plain_truth_of_small_worlds(self):
        talk = Talk(("a", "b"), most=4)
        maker = Maker(131)
        for _ in range(40):
            saying = broadly.simple(maker, 1)(talk)
            word, _ = always(talk, saying)
            # Up to the brink, 2, in each region.
            worlds = [world for world in plainly.all_worlds(Talk(("a", "b"), most=8)) if max(world[0]) <= brink(saying)]
            self.assertEqual(word == "yes", all(plainly.truth(talk, world, saying) for world in worlds))


class SharesOfAnySize(unittest.TestCase):
    def test_they_are_those_of_worlds(self):
        # What is told of counts is told of worlds with these counts.
        maker = Maker(132)
        for _ in range(60):
            talk = Talk(("a",), ("n",), most=5)
            saying = some_simple(maker, talk, 1)
            world = ((maker.whole(0, 2), maker.whole(0, 2)), (maker.whole(0, 5),))
            if is_simple(talk, saying):
                try:
                    self.assertIs(true_of(talk, world[0], saying), is_true_broad(talk, world, saying))
                except TooMany:
                    pass
        self.assertEqual(len(shares(Talk(("a",), most=5), ((2, 2), ()), "b")), 9)


if __name__ == "__main__":
    unittest.main()
