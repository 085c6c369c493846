import itertools
import unittest

from countfold.broad import is_broad, is_true_broad, shares
from countfold.errors import NoSaying, NoTalk
from countfold.reading import read_saying
from countfold.sayings import is_saying
from countfold.talks import Talk
from tests import broadly, plainly
from tests.makers import NAMES, NUMBERS, Maker
from tests.things import THIRTY, nested, no_texts, no_wholes, refused

TALK = Talk(("b",), ("n",), most=5)
LEAF = ("within", "b", "b")
SMALL = [Talk(NAMES[:sets], NUMBERS[:numbers], most=most)
         for sets, numbers, most in [(0, 0, 4), (0, 1, 3), (1, 0, 4), (1, 1, 2), (2, 0, 3), (2, 2, 1), (0, 2, 2), (3, 0, 2)]]


def inside(saying, *words):
    """The saying within these words, the first one outermost."""
    for word in reversed(words):
        saying = (*word.split(), saying)
    return saying


def joined(*sayings):
    layer = list(sayings)
    while len(layer) > 1:
        layer = [("both", *layer[at:at + 2]) if at + 1 < len(layer) else layer[at] for at in range(0, len(layer), 2)]
    return layer[0]


class IsBroad(unittest.TestCase):
    def yes(self, *things, talk=TALK):
        for thing in things:
            self.assertIs(is_broad(talk, thing), True, thing)

    def no(self, *things, talk=TALK):
        for thing in things:
            self.assertIs(is_broad(talk, thing), False, thing)

    def test_plain_ones_and_broad_ones(self):
        self.yes(LEAF, ("some", "a", LEAF), ("all", "a", ("within", "a", "b")), ("not", ("some", "c", ("same", "c", "b"))),
                 ("both", ("some", "a", LEAF), LEAF), ("either", LEAF, ("all", "zz", ("same", "zz", ("not", "b")))),
                 ("some", "a", ("all", "c", ("within", ("and", "a", "b"), "c"))), ("some", "some", ("within", "some", "b")), ("all", "all", LEAF),
                 ("some", "abcdefgh", LEAF), ("all", "a", ("atmost", (("num", 1, "n"),), (("size", 2, "a"),))))
        self.assertIs(is_broad(thing=LEAF, talk=TALK), True)
        maker = Maker(120)
        for _ in range(200):
            talk = maker.among(*SMALL)
            saying = maker.saying(talk, 4)
            self.assertIs(is_broad(talk, saying), is_saying(talk, saying))
            self.yes(broadly.some_broad(maker, Talk(NAMES[:2], NUMBERS)), talk=Talk(NAMES[:2], NUMBERS))

    def test_a_set_stands_in_what_is_within_alone(self):
        self.no(("both", ("some", "a", LEAF), ("within", "a", "b")), ("within", "a", "b"), ("some", "a", ("within", "c", "b")),
                ("some", "a", ("some", "c", ("within", "d", "b"))), ("some", "a", ("atmost", (("num", 1, "a"),), ())))
        self.yes(("both", ("some", "a", ("within", "a", "b")), ("some", "c", ("within", "c", "b"))))

    def test_a_name_that_is_not_the_talk_s(self):
        self.no(("some", "b", LEAF), ("all", "n", LEAF), ("some", "a", ("all", "a", LEAF)), ("some", "a", ("not", ("some", "a", LEAF))),
                ("some", "a", ("all", "c", ("some", "a", LEAF))))
        # Side by side one name may stand twice.
        self.yes(("both", ("some", "a", ("within", "a", "b")), ("all", "a", ("within", "b", "a"))), ("some", "a", ("both", ("some", "c", LEAF), ("all", "c", LEAF))))

    def test_what_is_no_name(self):
        for name in [*no_texts(), *no_wholes(), "A", "a1", "abcdefghi", "a b", " ", "#", "_"]:
            if name != "a":
                self.no(("some", name, LEAF), ("all", name, LEAF))
        self.no(("some", LEAF), ("some", "a"), ("some", "a", LEAF, LEAF), ("some",), ("all",), ["some", "a", LEAF], ("some", "a", list(LEAF)), ("Some", "a", LEAF), ("none", "a", LEAF))

    def test_no_more_than_three_sets(self):
        words = ("some a", "all c", "some d", "all e")
        for many, sets in itertools.product(range(5), range(4)):
            talk = Talk(("g", "h", "i")[:sets], most=3)
            saying = inside(("within", ("none",), ("all",)), *words[:many])
            self.assertIs(is_broad(talk, saying), sets + many <= 3)

    def test_four_such_words(self):
        one, two = ("some", "a", LEAF), ("all", "a", ("some", "c", LEAF))
        self.yes(joined(one, one, one, one), joined(two, two), ("some", "a", joined(*[("all", "c", LEAF)] * 3)), joined(two, one, one))
        self.no(joined(one, one, one, one, one), joined(two, two, one), ("some", "a", joined(*[("all", "c", LEAF)] * 4)), joined(two, joined(one, one, one)))
        # All of one depth, or of several.
        self.no(("both", one, ("both", one, ("both", one, ("both", one, one)))))
        self.yes(("both", one, ("both", one, ("both", one, one))))

    def test_six_deep(self):
        nots = ["not"] * 5
        self.yes(inside(LEAF, *nots))
        self.no(inside(LEAF, *nots, "not"))
        for at in range(5):
            self.yes(inside(LEAF, *nots[:at], "some a", *nots[at + 1:]))
            self.no(inside(LEAF, *nots[:at], "some a", *nots[at:]))
        self.yes(inside(LEAF, "all a", "not", "some c", "not", "not"))
        self.no(inside(LEAF, "all a", "not", "some c", "not", "not", "not"))

    def test_twenty_four_parts(self):
        for word in ("some", "all"):
            self.yes((word, "a", plainly.broad_saying(23, LEAF)), ("both", (word, "a", LEAF), plainly.broad_saying(21, LEAF)))
            self.no((word, "a", plainly.broad_saying(25, LEAF)), ("both", (word, "a", LEAF), plainly.broad_saying(23, LEAF)))
            self.no(("both", ("not", (word, "a", LEAF)), plainly.broad_saying(21, LEAF)), ("both", (word, "a", ("some", "c", LEAF)), plainly.broad_saying(21, LEAF)))
            self.yes(("both", ("not", (word, "a", LEAF)), plainly.broad_saying(19, LEAF)), ("both", (word, "a", ("some", "c", LEAF)), plainly.broad_saying(19, LEAF)))

    def test_anything(self):
        self.no(*no_texts(), *no_wholes(), "some", ("some", "a", None), ("some", "a", ()), ("some", "a", "b"), ("some", "a", ("b",)), nested(16), ("all", "a", nested(14)),
                ("some", ("a",), LEAF), ("some", "a", {"a": 1}), (("some",), "a", LEAF), (True, "a", LEAF), ("some", "a", 1))


class Shares(unittest.TestCase):
    def test_told(self):
        self.assertEqual(shares(TALK, ((1, 2), (4,)), "a"), [((0, 1, 0, 2), (4,)), ((0, 1, 1, 1), (4,)), ((0, 1, 2, 0), (4,)), ((1, 0, 0, 2), (4,)),
                                                            ((1, 0, 1, 1), (4,)), ((1, 0, 2, 0), (4,))])
        self.assertEqual(shares(TALK, ((1, 2), (4,)), "c"), [((0, 0, 1, 2), (4,)), ((0, 1, 1, 1), (4,)), ((0, 2, 1, 0), (4,)), ((1, 0, 0, 2), (4,)),
                                                            ((1, 1, 0, 1), (4,)), ((1, 2, 0, 0), (4,))])
        self.assertEqual(shares(TALK, ((0, 0), (4,)), "a"), [((0, 0, 0, 0), (4,))])
        self.assertEqual(shares(Talk(most=2), ((2,), ()), "a"), [((0, 2), ()), ((1, 1), ()), ((2, 0), ())])
        self.assertEqual(shares(name="a", world=((0, 1), (4,)), talk=TALK), [((0, 0, 0, 1), (4,)), ((0, 0, 1, 0), (4,))])

    def test_of_each_small_world(self):
        for talk in SMALL[:-1]:
            for name in ("bb", "aa", "z"):
                wide = talk.wider(name)
                for world in plainly.all_worlds(talk):
                    told = shares(talk, world, name)
                    self.assertIs(type(told), list)
                    self.assertEqual(told, sorted(told))
                    expected = [share for share in plainly.all_worlds(wide) if share[1] == world[1] and all(
                        sum(share[0][half] for half in talk.halves(region, name)) == count for region, count in enumerate(world[0]))]
                    self.assertEqual(told, expected)

    def test_the_list_is_new(self):
        shares(TALK, ((1, 2), (4,)), "a").clear()
        self.assertEqual(len(shares(TALK, ((1, 2), (4,)), "a")), 6)

    def test_no_talk(self):
        for name in [*no_texts(), *no_wholes(), "b", "n", "A", "abcdefghi", ""]:
            if name != "a":
                refused(self, NoTalk, shares, TALK, ((1, 2), (4,)), name)
        refused(self, NoTalk, shares, Talk(NAMES, most=2), ((0,) * 8, ()), "d")


class IsTrueBroad(unittest.TestCase):
    def test_told(self):
        for text, counts, told in [("some a [a is b]", (1, 2), True), ("some a ([1 #a = 2] and [a in b])", (1, 2), True), ("some a ([1 #a = 2] and [a in b])", (1, 1), False),
                                   ("all a [a in b]", (0, 2), True), ("all a [a in b]", (1, 2), False), ("some a [2 #a = 1 #{*}]", (1, 2), False),
                                   ("some a [2 #a = 1 #{*}]", (2, 2), True), ("all a some c [a is !c]", (2, 1), True), ("some a all c [c in a]", (2, 1), True),
                                   ("some a all c [a in c]", (2, 1), True), ("some a (~[a is {}] and all c ([a in c] or [(a & c) is {}]))", (2, 0), True),
                                   ("some a (~[a is {}] and all c [a in c])", (2, 0), False), ("[b is {*}]", (0, 3), True), ("[b is {*}]", (1, 3), False),
                                   ("some a [1 #a = 1 n]", (1, 2), True), ("some a [1 #a = 1 n]", (1, 1), False), ("~some a [1 #a = 1 n]", (1, 1), True)]:
            self.assertIs(is_true_broad(TALK, (counts, (3,)), read_saying(text)), told, (text, counts))
        self.assertIs(is_true_broad(saying=("some", "a", ("same", "a", "b")), world=((1, 2), (3,)), talk=TALK), True)

    def test_against_all_sets_of_the_things(self):
        maker = Maker(121)
        told = []
        for _ in range(250):
            talk = maker.among(*SMALL)
            if len(talk.sets()) == 3:
                continue
            saying = broadly.some_broad(maker, talk)
            if not is_broad(talk, saying):
                continue
            for world in plainly.all_worlds(talk)[::5]:
                told.append(is_true_broad(talk, world, saying))
                self.assertIs(told[-1], broadly.truth(talk, world, saying), (str(talk), world, saying))
        self.assertGreater(min(told.count(True), told.count(False)), 200)

    def test_plain_ones(self):
        maker = Maker(122)
        for _ in range(100):
            talk = maker.among(*SMALL)
            saying = maker.saying(talk, 3)
            for world in plainly.all_worlds(talk)[::7]:
                self.assertIs(is_true_broad(talk, world, saying), plainly.truth(talk, world, saying))

    def test_five_things(self):
        talk = Talk((), ("n",), most=THIRTY)
        leaf = ("equal", (("size", 1, ("and", "a", "c")), ("size", 3, "d"), ("size", 9, ("but", "c", "d"))), (("num", 1, "n"),))
        # A thing counts as 0, 3, 4, 9 or 10.
        for value, told in [(0, True), (1, False), (2, False), (15, True), (23, True), (48, True), (50, True), (51, False), (THIRTY, False)]:
            self.assertIs(is_true_broad(talk, ((5,), (value,)), inside(leaf, "some a", "some c", "some d")), told)
            self.assertIs(is_true_broad(talk, ((5,), (value,)), inside(("not", leaf), "all a", "all c", "all d")), not told)
        self.assertIs(is_true_broad(Talk(("d",), ("n",), most=5), ((2, 3), (4,)), inside(("not", leaf), "all a", "all c")), True)

    def test_no_saying(self):
        for thing in [*no_texts(), ("some", "b", LEAF), ("some", "n", LEAF), ("within", "a", "b"), inside(LEAF, *["not"] * 6), ("some", "a", ["within", "a", "b"]),
                      joined(*[("some", "a", LEAF)] * 5), "some a [a in b]", nested(16), plainly.broad_saying(25, LEAF)]:
            self.assertIs(refused(self, NoSaying, is_true_broad, TALK, ((1, 2), (3,)), thing).saying, thing)


if __name__ == "__main__":
    unittest.main()
