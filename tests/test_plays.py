import copy
import itertools
import unittest

from countfold.broad import is_broad, shares
from countfold.errors import NoSaying
from countfold.plays import FEW, false_at, play_of, shows_play
from countfold.reading import read_saying
from countfold.talks import Talk
from tests import broadly, plainly
from tests.makers import NAMES, NUMBERS, Maker
from tests.test_broad import LEAF, SMALL, joined
from tests.things import nested, no_texts, no_wholes, refused

TALK = Talk(("b",), ("n",), most=5)
WORLD = ((1, 1), (2,))


def is_play(talk, world, saying, truth, play):
    """Whether a play is one as the document tells."""
    word = saying[0]
    if broadly.words_in(saying) == 0:
        return play == ("leaf",) and plainly.truth(talk, world, saying) == truth
    if word == "not":
        return is_play(talk, world, saying[1], not truth, play)
    if word in ("both", "either"):
        if truth == (word == "both"):
            return len(play) == 3 and play[0] == "two" and all(is_play(talk, world, part, truth, under) for part, under in zip(saying[1:], play[1:]))
        return len(play) == 3 and play[0] == "one" and is_play(talk, world, saying[1 + play[1]], truth, play[2])
    wide, found = talk.wider(saying[1]), shares(talk, world, saying[1])
    if truth == (word == "some"):
        return len(play) == 3 and play[0] == "share" and play[1] in found and is_play(wide, play[1], saying[2], truth, play[2])
    return len(play) == 2 and play[0] == "every" and type(play[1]) is tuple and len(play[1]) == len(found) and all(
        is_play(wide, share, saying[2], truth, under) for share, under in zip(found, play[1]))


def changed(play):
    """The play with one thing in it otherwise."""
    yield play + (("leaf",),)
    yield play[:-1]
    yield list(play)
    for at, part in enumerate(play):
        others = [None, (part,), ()]
        if isinstance(part, tuple):
            others += changed(part)
        elif isinstance(part, str):
            others += ["leaf", "one", "two", "share", "every", part.upper()]
        else:
            others += [part + 1, part - 1, True, False, str(part), 9]
        yield from [play[:at] + (other,) + play[at + 1:] for other in others if other is not part]


class PlayOf(unittest.TestCase):
    def check(self, talk, world, saying):
        truth, play = play_of(talk, world, saying)
        self.assertIs(truth, broadly.truth(talk, world, saying))
        self.assertTrue(is_play(talk, world, saying, truth, play), (saying, play))
        self.assertIs(shows_play(talk, world, saying, truth, play), True)
        self.assertIs(shows_play(talk, world, saying, not truth, play), False)
        return truth, play

    def test_each_word_and_both_truths(self):
        some_true, some_false = "some a [1 #a = 1]", "some a [1 #a = 3]"
        for text, told in [("[b is b]", (True, ("leaf",))), ("~([b is b] and [b in {}])", (True, ("leaf",))), ("([b in {}] or [1 n = 1])", (False, ("leaf",))),
                           ("some a [1 #a = 2]", (True, None)), ("all a [1 #a = 2]", (False, None)), ("all a [1 #a <= 2]", (True, ("every", (("leaf",),) * 4))),
                           ("some a [1 #a = 3]", (False, ("every", (("leaf",),) * 4))), ("~some a [1 #a = 3]", (True, ("every", (("leaf",),) * 4))),
                           (f"({some_true} and {some_true})", (True, None)), (f"({some_true} and {some_false})", (False, ("one", 1, ("every", (("leaf",),) * 4)))),
                           (f"({some_false} and {some_true})", (False, ("one", 0, ("every", (("leaf",),) * 4)))), (f"({some_false} or {some_false})", (False, ("two", *[("every", (("leaf",),) * 4)] * 2))),
                           (f"({some_false} or {some_true})", (True, None)), (f"({some_true} or {some_false})", (True, None)), (f"({some_false} and [b is b])", (False, ("one", 0, ("every", (("leaf",),) * 4)))),
                           (f"([b is b] or {some_false})", (True, ("one", 0, ("leaf",)))), ("some a all c ([c in a] or [(a & c) is {}])", (True, None)), ("all a some c [a is !c]", (True, None))]:
            found = self.check(TALK, WORLD, read_saying(text))
            if told[1] is None:
                self.assertIs(found[0], told[0], text)
            else:
                self.assertEqual(found, told, text)
        self.assertEqual(play_of(saying=LEAF, world=WORLD, talk=TALK), (True, ("leaf",)))

    def test_against_all_sets(self):
        maker = Maker(123)
        truths = []
        for _ in range(200):
            talk = maker.among(*SMALL[:-1])
            saying = broadly.some_broad(maker, talk)
            if is_broad(talk, saying):
                for world in plainly.all_worlds(talk)[::9]:
                    truths.append(self.check(talk, world, saying)[0])
        self.assertGreater(min(truths.count(True), truths.count(False)), 100)

    def test_five_things(self):
        talk = Talk(("b",), most=5)
        saying = read_saying("all a some c (([1 #a = 1 #c] and [(a & c) is {}]) or [3 <= 1 #a])")
        self.assertIs(self.check(talk, ((2, 3), ()), saying)[0], True)
        self.assertIs(self.check(talk, ((2, 1), ()), saying)[0], False)

    def test_no_saying(self):
        for thing in [*no_texts(), ("some", "b", LEAF), ("within", "a", "b"), ("some", "a", ["within", "a", "b"]), joined(*[("some", "a", LEAF)] * 5), nested(16)]:
            self.assertIs(refused(self, NoSaying, play_of, TALK, WORLD, thing).saying, thing)
            self.assertIs(refused(self, NoSaying, false_at, TALK, thing).saying, thing)
            self.assertIs(refused(self, NoSaying, false_at, TALK, thing, things=0).saying, thing)


class ShowsPlay(unittest.TestCase):
    def test_changed_at_any_place(self):
        maker = Maker(124)
        many = 0
        for _ in range(150):
            talk = maker.among(*SMALL[:-1])
            saying = broadly.some_broad(maker, talk, 3)
            if not is_broad(talk, saying):
                continue
            world = maker.among(*plainly.all_worlds(talk))
            truth, play = play_of(talk, world, saying)
            for other in itertools.islice(changed(play), 300):
                try:
                    told = is_play(talk, world, saying, truth, other) and not self.has_truths(other)
                except (TypeError, IndexError, KeyError, ValueError):
                    told = False
                self.assertIs(shows_play(talk, world, saying, truth, other), told, (saying, truth, other))
                many += 1
                self.assertIs(shows_play(talk, world, saying, not truth, other), False)
        self.assertGreater(many, 2000)

    def has_truths(self, thing):
        """Whether True or False, or a list, stands in it."""
        if isinstance(thing, (bool, list)):
            return True
        return isinstance(thing, tuple) and any(self.has_truths(part) for part in thing)

    def test_one_share_too_many_or_too_few(self):
        saying = read_saying("all a [1 #a <= 2]")
        for many in range(7):
            self.assertIs(shows_play(TALK, WORLD, saying, True, ("every", (("leaf",),) * many)), many == 4)
        self.assertIs(shows_play(TALK, WORLD, saying, True, ("every", [("leaf",)] * 4)), False)
        self.assertIs(shows_play(TALK, WORLD, saying, True, ("every", (("leaf",),) * 3 + (("two", ("leaf",), ("leaf",)),))), False)

    def test_any_share_in_which_it_is_true(self):
        saying = read_saying("some a [1 #a = 1]")
        for share in plainly.all_worlds(Talk(("a", "b"), ("n",), most=3)):
            told = share[1] == (2,) and share[0][0] + share[0][1] == 1 and share[0][2] + share[0][3] == 1 and share[0][1] + share[0][3] == 1
            self.assertIs(shows_play(TALK, WORLD, saying, True, ("share", share, ("leaf",))), told)
            self.assertIs(shows_play(TALK, WORLD, saying, False, ("share", share, ("leaf",))), False)
        self.assertIs(shows_play(TALK, WORLD, saying, True, ("share", ((0, 1, 1, 0), (2,)), ("leaf",))), True)
        for share in [((False, True, 1, 0), (2,)), ((0, 1, True, 0), (2,)), [(0, 1, 1, 0), (2,)], ([0, 1, 1, 0], (2,)), ((0, 1, 1, 0), [2]), ((0, 1, 1, 0), (2,), ()), ((0, 1, 1, 0),),
                      (0, 1, 1, 0), None, 0, "share", nested(14)]:
            self.assertIs(shows_play(TALK, WORLD, saying, True, ("share", share, ("leaf",))), False)

    def test_any_one_of_two(self):
        both = read_saying("(some a [1 #a = 1] or some a [1 #a = 2])")
        first, second = [("share", (counts, (2,)), ("leaf",)) for counts in [(0, 1, 1, 0), (0, 1, 0, 1)]]
        for place, play, told in [(0, first, True), (1, second, True), (0, second, False), (1, first, False), (2, first, False), (-1, second, False), (-2, first, False),
                                  (False, first, False), (True, second, False), ("0", first, False), (None, first, False)]:
            self.assertIs(shows_play(TALK, WORLD, both, True, ("one", place, play)), told)
        self.assertIs(shows_play(thing=("one", 0, first), truth=True, saying=both, world=WORLD, talk=TALK), True)

    def test_a_saying_without_some_and_all_is_a_leaf_alone(self):
        for saying in [LEAF, ("not", ("not", LEAF)), ("both", LEAF, LEAF), ("either", LEAF, ("not", LEAF))]:
            self.assertIs(shows_play(TALK, WORLD, saying, True, ("leaf",)), True)
            self.assertIs(shows_play(TALK, WORLD, saying, False, ("leaf",)), False)
            for play in [("two", ("leaf",), ("leaf",)), ("one", 0, ("leaf",)), ("leaf", ()), (("leaf",),), "leaf", ["leaf"], (), None]:
                self.assertIs(shows_play(TALK, WORLD, saying, True, play), False)
                self.assertIs(shows_play(TALK, WORLD, saying, False, play), False)

    def test_anything(self):
        for saying in [LEAF, ("some", "a", LEAF), ("all", "a", LEAF), ("both", ("some", "a", LEAF), LEAF), ("not", ("some", "a", LEAF)), ("either", LEAF, ("all", "a", LEAF))]:
            for thing in [*no_texts(), *no_wholes(), nested(16), ("share",), ("every",), ("every", ()), ("share", (), ()), ("one", 0), ("two",), ("every", nested(14)), ("one", 0, nested(14))]:
                self.assertIs(shows_play(TALK, WORLD, saying, True, thing), False)
                self.assertIs(shows_play(TALK, WORLD, saying, False, thing), False)


class FalseAt(unittest.TestCase):
    def expected(self, talk, saying, things):
        most = min(things, talk.most())
        worlds = [world for world in plainly.all_worlds(Talk(talk.sets(), talk.numbers(), most=max(1, most)))
                  if sum(world[0]) <= most and all(value <= most for value in world[1])]
        worlds = sorted(worlds, key=lambda world: (sum(world[0]), world))
        return next((world for world in worlds if not broadly.truth(talk, world, saying)), None)

    def test_told(self):
        self.assertEqual(FEW, 3)
        for text, told in [("some a [1 #a = 1]", ((0, 0), (0,))), ("[b in {}]", ((0, 1), (0,))), ("[1 #b <= 2]", ((0, 3), (0,))), ("[1 #b <= 3]", None), ("[1 n <= 2]", ((0, 0), (3,))),
                           ("[1 n <= 3]", None), ("all a some c [a is !c]", None), ("all a ([a in b] or [b in a])", ((1, 1), (0,))), ("[1 n <= 2 #{*}]", ((0, 0), (1,))),
                           ("([1 #{*} = 0] or [1 n <= 1 #b])", ((0, 1), (2,)))]:
            self.assertEqual(false_at(TALK, read_saying(text)), told, text)
            self.assertEqual(self.expected(TALK, read_saying(text), 3), told, text)

    def test_things(self):
        saying = read_saying("[1 #b <= 1]")
        self.assertEqual([false_at(TALK, saying, things=things) for things in range(4)], [None, None, ((0, 2), (0,)), ((0, 2), (0,))])
        saying = read_saying("[1 n <= 1]")
        self.assertEqual([false_at(things=things, saying=saying, talk=TALK) for things in range(4)], [None, None, ((0, 0), (2,)), ((0, 0), (2,))])
        # No more things, and no greater number, than the talk has.
        self.assertIsNone(false_at(Talk(("b",), ("n",), most=1), read_saying("([1 #b <= 1] and [1 n <= 1])")))
        self.assertIsNone(false_at(Talk(("b",), ("n",), most=2), read_saying("([1 #{*} <= 2] and [1 n <= 2])"), things=3))

    def test_against_all_small_worlds(self):
        maker = Maker(125)
        told = []
        for _ in range(150):
            talk = maker.among(*[Talk(NAMES[:sets], NUMBERS[:numbers], most=most) for sets, numbers, most in [(0, 1, 9), (1, 0, 9), (1, 1, 2), (2, 0, 4), (0, 2, 3), (1, 2, 2), (0, 0, 3)]])
            saying = maker.among(broadly.some_broad, lambda maker, talk: maker.saying(talk, 3))(maker, talk)
            if is_broad(talk, saying):
                things = maker.whole(0, 3)
                told.append(false_at(talk, saying, things=things))
                self.assertEqual(told[-1], self.expected(talk, saying, things), (str(talk), saying, things))
                self.assertEqual(false_at(talk, saying), self.expected(talk, saying, 3))
        self.assertGreater(told.count(None), 20)
        self.assertGreater(len({world for world in told if world}), 8)

    def test_three_sets_and_two_numbers(self):
        talk = Talk(NAMES, NUMBERS, most=20)
        self.assertEqual(false_at(talk, read_saying("[1 #(a & (b & c)) + 1 n + 1 m <= 8]")), ((0,) * 7 + (3,), (3, 3)))
        self.assertIsNone(false_at(talk, read_saying("([1 #(a & (b & c)) + 1 n + 1 m <= 9] and ~(~[a is a] or ~[b is b]))")))


class StaysAsItWas(unittest.TestCase):
    def test_what_is_handed_in_and_the_answers(self):
        saying = read_saying("(some a [1 #a = 1] or some a [1 #a = 2])")
        given = copy.deepcopy(saying)
        self.assertEqual(play_of(TALK, WORLD, saying), play_of(TALK, WORLD, saying))
        self.assertEqual(false_at(TALK, saying), false_at(TALK, saying))
        self.assertEqual(saying, given)


if __name__ == "__main__":
    unittest.main()
