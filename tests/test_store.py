import copy
import unittest

from countfold.cases import cases_many
from countfold.errors import NoMark, NoNumber, NoSaying, NoSum, NoWorld, TooMany
from countfold.prover import asked, follows, shows_none
from countfold.ranges import ranged, shows_range
from countfold.reading import read_saying
from countfold.store import Store
from countfold.talks import Talk
from countfold.worlds import is_world
from tests import plainly
from tests.makers import NAMES, NUMBERS, Maker
from tests.test_prover import A_IN_B, NO_A, SMALL, are_papers, many_cases, said, worlds_of
from tests.things import THIRTY, nested, no_texts, no_wholes, refused

TALK = Talk(("a", "b"), ("n",), most=5)
TRUE = ("atmost", (), ())
NONE = [*no_texts(), ("within", "a", "c"), ("within", "a"), ("some", "c", A_IN_B), ("parts", 1, ()), plainly.deep_saying(7), plainly.broad_saying(25),
        ["within", "a", "b"], "[a in b]", nested(16)]


def store(*texts, talk=TALK):
    made = Store(talk)
    for text in texts:
        made.say(read_saying(text))
    return made


def laid(*words):
    """The log of these deeds and questions."""
    return tuple((way, word) for word in words for way in ("in", "out"))


def seen(made):
    """All that can be told of a store, but that its numbers go on."""
    return made.standing(), list(made.standing()), made.log(), made.talk(), len(made), repr(made)


class Say(unittest.TestCase):
    def test_numbers_from_0(self):
        made = Store(TALK)
        self.assertEqual([made.say(A_IN_B), made.say(saying=NO_A), made.say(A_IN_B)], [0, 1, 2])
        self.assertEqual(made.standing(), {0: A_IN_B, 1: NO_A, 2: A_IN_B})
        self.assertEqual(len(made), 3)

    def test_no_saying(self):
        made = store("[a in b]")
        for thing in NONE:
            self.assertIs(refused(self, NoSaying, made.say, thing).saying, thing)
        self.assertEqual(made.standing(), {0: A_IN_B})
        # What is refused spends no number.
        self.assertEqual(made.say(NO_A), 1)

    def test_thirteen(self):
        made = Store(TALK)
        self.assertEqual([made.say(TRUE) for _ in range(12)], list(range(12)))
        self.assertEqual(refused(self, TooMany, made.say, A_IN_B).many, 13)
        self.assertEqual(refused(self, TooMany, made.say, many_cases(6)).many, 13)
        self.assertIsInstance(refused(self, NoSaying, made.say, None), NoSaying)
        made.drop(4)
        self.assertEqual(made.say(A_IN_B), 12)
        self.assertEqual(refused(self, TooMany, made.say, A_IN_B).many, 13)
        self.assertEqual(list(made.standing()), [0, 1, 2, 3, 5, 6, 7, 8, 9, 10, 11, 12])

    def test_more_than_thirty_two_cases(self):
        made = Store(TALK)
        self.assertEqual(refused(self, TooMany, made.say, many_cases(6)).many, 64)
        self.assertEqual(made.say(many_cases(4)), 0)
        self.assertEqual(refused(self, TooMany, made.say, many_cases(2)).many, 64)
        self.assertEqual(refused(self, TooMany, made.say, ("either", ("either", TRUE, TRUE), TRUE)).many, 48)
        self.assertEqual(made.say(many_cases(1)), 1)
        self.assertEqual(refused(self, TooMany, made.say, ("either", TRUE, TRUE)).many, 64)
        self.assertEqual(made.say(TRUE), 2)
        made.drop(1)
        self.assertEqual(made.say(("either", TRUE, TRUE)), 3)


class SayAll(unittest.TestCase):
    def test_told(self):
        made = Store(TALK)
        self.assertEqual(made.say_all((A_IN_B, NO_A)), (0, 1))
        self.assertEqual(made.say_all(sayings=[TRUE]), (2,))
        self.assertEqual(made.say_all(()), ())
        self.assertEqual(made.say_all([]), ())
        self.assertEqual(made.say(TRUE), 3)
        self.assertEqual(made.standing(), {0: A_IN_B, 1: NO_A, 2: TRUE, 3: TRUE})

    def test_neither_a_tuple_nor_a_list(self):
        made = Store(TALK)
        for thing in [None, True, 0, "", "[a in b]", {}, {A_IN_B: 1}]:
            self.assertIs(refused(self, NoSaying, made.say_all, thing).saying, thing)
        self.assertEqual(made.say_all((A_IN_B,)), (0,))

    def test_a_bad_one_anywhere(self):
        made = store("[a in b]")
        for thing in NONE:
            for sayings in [(thing,), [thing, A_IN_B], (A_IN_B, thing), [A_IN_B, NO_A, thing, "another"], (A_IN_B, thing, many_cases(6))]:
                self.assertIs(refused(self, NoSaying, made.say_all, sayings).saying, thing)
        self.assertEqual(made.standing(), {0: A_IN_B})
        self.assertEqual(made.say_all([NO_A, NO_A]), (1, 2))

    def test_refused_as_say_would_then(self):
        made = store(*["[a in b]"] * 10)
        self.assertEqual(refused(self, TooMany, made.say_all, (TRUE, TRUE, TRUE)).many, 13)
        # In turn: the third is refused ahead of the fourth.
        self.assertEqual(refused(self, TooMany, made.say_all, (TRUE, TRUE, TRUE, None)).many, 13)
        self.assertIsNone(refused(self, NoSaying, made.say_all, (TRUE, None, TRUE)).saying)
        self.assertEqual(refused(self, TooMany, made.say_all, (many_cases(3), many_cases(3))).many, 64)
        self.assertEqual(refused(self, TooMany, made.say_all, (many_cases(3), many_cases(3), None)).many, 64)
        self.assertEqual(len(made), 10)
        self.assertEqual(made.say_all((many_cases(3), many_cases(2))), (10, 11))

    def test_the_list_is_not_kept(self):
        made, sayings = Store(TALK), [A_IN_B, NO_A]
        made.say_all(sayings)
        self.assertEqual(sayings, [A_IN_B, NO_A])
        sayings.clear()
        self.assertEqual(len(made), 2)


class Drop(unittest.TestCase):
    def test_told(self):
        made = store("[a in b]", "[a is {}]", "[. <= .]")
        self.assertIsNone(made.drop(1))
        self.assertEqual(made.standing(), {0: A_IN_B, 2: TRUE})
        self.assertIsNone(made.drop(number=0))
        self.assertEqual(made.standing(), {2: TRUE})
        # No number is told twice.
        self.assertEqual(made.say(NO_A), 3)
        made.drop(3)
        made.drop(2)
        self.assertEqual((made.standing(), made.say(NO_A)), ({}, 4))

    def test_no_number(self):
        made = store("[a in b]", "[a is {}]", "[. <= .]")
        made.drop(1)
        for thing in [*no_texts(), *no_wholes(), 1, 3, -1, THIRTY, "0", (0,), [0], {0: 0}, nested(16)]:
            if thing != 0 or isinstance(thing, bool):
                self.assertIs(refused(self, NoNumber, made.drop, thing).number, thing)
        self.assertEqual(list(made.standing()), [0, 2])


class MarkAndBack(unittest.TestCase):
    def test_told(self):
        made = Store(TALK)
        self.assertEqual(made.mark(), 1)
        made.say(A_IN_B)
        self.assertEqual(made.mark(), 2)
        made.say(NO_A)
        made.drop(0)
        self.assertIsNone(made.back())
        self.assertEqual(made.standing(), {0: A_IN_B})
        self.assertIsNone(made.back())
        self.assertEqual(made.standing(), {})
        self.assertIsInstance(refused(self, NoMark, made.back), NoMark)
        # Numbers go on.
        self.assertEqual(made.say(NO_A), 2)
        self.assertEqual(made.mark(), 1)

    def test_what_was_dropped_stands_again_in_its_place(self):
        made = store("[a in b]", "[a is {}]", "[. <= .]")
        made.mark()
        made.drop(0)
        made.drop(2)
        self.assertEqual(made.say(TRUE), 3)
        made.back()
        self.assertEqual(list(made.standing().items()), [(0, A_IN_B), (1, NO_A), (2, TRUE)])
        self.assertEqual(made.say(TRUE), 4)
        self.assertEqual(list(made.standing()), [0, 1, 2, 4])

    def test_two_marks_of_the_same(self):
        made = store("[a in b]")
        self.assertEqual([made.mark(), made.mark()], [1, 2])
        made.drop(0)
        made.back()
        self.assertEqual(list(made.standing()), [0])
        made.drop(0)
        made.back()
        self.assertEqual(list(made.standing()), [0])
        refused(self, NoMark, made.back)
        self.assertEqual(list(made.standing()), [0])

    def test_full_stores_and_many_cases(self):
        made = store(*["[a in b]"] * 12)
        made.mark()
        for number in range(12):
            made.drop(number)
        made.say_all([many_cases(5)])
        made.back()
        self.assertEqual(len(made), 12)
        self.assertEqual(refused(self, TooMany, made.say, TRUE).many, 13)


class Told(unittest.TestCase):
    def test_what_is_told_is_the_asker_s_own(self):
        made = store("[a in b]", "[a is {}]")
        made.standing().clear()
        made.standing()[0] = TRUE
        self.assertEqual(made.standing(), {0: A_IN_B, 1: NO_A})
        self.assertIs(type(made.standing()), dict)
        self.assertIs(type(made.log()), tuple)

    def test_talk_length_and_repr(self):
        made = Store(talk=TALK)
        self.assertEqual((made.talk(), len(made), repr(made)), (TALK, 0, "Store(0 sayings)"))
        made.say(A_IN_B)
        self.assertEqual((len(made), repr(made), str(made)), (1, "Store(1 sayings)", "Store(1 sayings)"))
        made.say_all([TRUE] * 11)
        self.assertEqual((len(made), repr(made)), (12, "Store(12 sayings)"))
        self.assertIs(type(made.talk()), Talk)

    def test_equal(self):
        one, other = store("[a in b]", "[a is {}]"), store("[. <= .]", "[a in b]", "[a is {}]")
        self.assertIs(one == other, False)
        other.drop(0)
        self.assertIs(one == other, True)
        self.assertIs(one != other, False)
        other.mark()
        self.assertIs(one == other, True)
        self.assertIs(one == store("[a is {}]", "[a in b]"), False)
        self.assertIs(one == store("[a in b]", "[a is {}]", talk=Talk(("a", "b"), ("n",), most=6)), False)
        self.assertIs(one == store("[a in b]"), False)
        for thing in [*no_texts(), *no_wholes(), TALK, one.standing()]:
            self.assertIs(one == thing, False)


class Log(unittest.TestCase):
    def test_two_for_each_refused_or_not(self):
        made = Store(TALK)
        words = []

        def done(word, call, *args, **more):
            call(*args, **more)
            words.append(word)
            self.assertEqual(made.log(), laid(*words))

        def not_done(word, error, call, *args, **more):
            refused(self, error, call, *args, **more)
            words.append(word)
            self.assertEqual(made.log(), laid(*words))
        self.assertEqual(made.log(), ())
        done("say", made.say, A_IN_B)
        not_done("say", NoSaying, made.say, None)
        not_done("say", TooMany, made.say, many_cases(6))
        done("say_all", made.say_all, (A_IN_B, TRUE, TRUE))
        done("say_all", made.say_all, [])
        not_done("say_all", NoSaying, made.say_all, None)
        not_done("say_all", NoSaying, made.say_all, [TRUE, TRUE, None])
        done("mark", made.mark)
        done("drop", made.drop, 0)
        not_done("drop", NoNumber, made.drop, 0)
        not_done("drop", NoNumber, made.drop, [])
        done("back", made.back)
        not_done("back", NoMark, made.back)
        done("asked", made.asked)
        done("follows", made.follows, saying=A_IN_B)
        not_done("follows", NoSaying, made.follows, saying=None)
        not_done("follows", TooMany, made.follows, saying=("not", many_cases(6)))
        done("ranged", made.ranged, total=())
        not_done("ranged", NoSum, made.ranged, total=None)
        done("clash", made.clash)
        done("say", made.say, ("equal", (), (("lot", 1),)))
        not_done("ranged", NoWorld, made.ranged, total=())
        done("clash", made.clash)
        done("asked", made.asked)
        # Nothing else lays any.
        made.standing(), made.log(), made.talk(), made.twin(), len(made), repr(made), made == made
        self.assertEqual(made.log(), laid(*words))

    def test_what_is_refused_changes_nothing_else(self):
        made = store("[a in b]", "[a is {}]")
        made.mark()
        made.say(TRUE)
        standing = made.standing()
        for call in [lambda: made.say(None), lambda: made.say_all((TRUE, TRUE, None)), lambda: made.drop(7), lambda: made.follows(saying=None), lambda: made.ranged(total=None), lambda: made.say(many_cases(6))]:
            self.assertRaises((ValueError, LookupError), call)
            self.assertEqual(list(made.standing().items()), list(standing.items()))
        self.assertEqual(made.mark(), 2)
        self.assertEqual(made.say(TRUE), 3)
        made.back()
        made.back()
        self.assertEqual(list(made.standing()), [0, 1])
        refused(self, NoMark, made.back)


class Twin(unittest.TestCase):
    def test_alike_in_all(self):
        made = store("[a in b]", "[a is {}]")
        made.mark()
        made.drop(0)
        other = made.twin()
        self.assertEqual(seen(other), seen(made))
        self.assertIs(type(other), Store)
        self.assertIs(made == other, True)
        self.assertEqual((other.say(TRUE), made.say(TRUE)), (2, 2))
        self.assertEqual((other.mark(), made.mark()), (2, 2))
        for one in (made, other):
            one.back()
            one.back()
            self.assertEqual(list(one.standing()), [0, 1])

    def test_further_deeds_of_one(self):
        deeds = [lambda one: one.say(TRUE), lambda one: one.say_all([TRUE, TRUE]), lambda one: one.drop(1), lambda one: one.mark(), lambda one: one.back(), lambda one: one.asked(),
                 lambda one: one.clash(), lambda one: one.ranged(total=())]
        for deed in deeds:
            for turned in (False, True):
                pair = [store("[a in b]", "[a is {}]")]
                pair[0].mark()
                pair[0].drop(0)
                pair.append(pair[0].twin())
                one, kept = pair[::-1] if turned else pair
                before = seen(kept)
                deed(one)
                self.assertEqual(seen(kept), before)
                # Numbers and marks are each one's own, too.
                self.assertEqual((kept.say(TRUE), kept.mark()), (2, 2))
                kept.back()
                kept.back()
                self.assertEqual(list(kept.standing()), [0, 1])


class Questions(unittest.TestCase):
    def check_clash(self, talk, made):
        """Whether there is a clash, which is gone over."""
        found = made.clash()
        standing = made.standing()
        if found is None:
            return False
        numbers, papers, worlds = found
        self.assertEqual(numbers, tuple(sorted(set(numbers))))
        self.assertTrue(set(numbers) <= set(standing))
        sayings = tuple(standing[number] for number in numbers)
        self.assertTrue(are_papers(talk, sayings, papers))
        self.assertIs(shows_none(talk, sayings, papers), True)
        self.assertIs(type(worlds), tuple)
        self.assertEqual(len(worlds), len(numbers))
        for left, world in zip(numbers, worlds):
            self.assertTrue(is_world(talk, world))
            self.assertTrue(all(plainly.truth(talk, world, standing[number]) for number in numbers if number != left))
        return True

    def test_told(self):
        made = store("[3 <= 1 #a]", "[1 n = 2]", "[a in b]", "[1 #b <= 2]", "[2 | 1 n]")
        self.assertEqual(made.asked()[0], "no")
        self.assertTrue(self.check_clash(TALK, made))
        self.assertEqual(made.clash()[0], (0, 2, 3))
        self.assertEqual(made.follows(saying=read_saying("[1 n = 77]"))[0], "yes")
        refused(self, NoWorld, made.ranged, total=(("size", 1, "a"),))
        made.drop(2)
        self.assertEqual(made.asked()[0], "yes")
        self.assertIsNone(made.clash())
        self.assertEqual(made.follows(saying=read_saying("~[a in b]"))[0], "yes")
        self.assertEqual(made.follows(saying=read_saying("[b in a]"))[0], "no")
        told = made.ranged(total=(("size", 1, "b"), ("num", 2, "n")))
        self.assertEqual((told[0], told[3]), (4, 6))

    def test_as_of_the_sayings(self):
        maker = Maker(133)
        for _ in range(60):
            talk = maker.among(*SMALL)
            sayings = maker.sayings(talk, maker.whole(0, 3), 3)
            saying, total = maker.saying(talk, 2), maker.sum(talk)
            if cases_many(sayings + (("not", saying),)) > 32 or cases_many(sayings) > 32:
                continue
            made = Store(talk)
            made.say_all(sayings)
            word, found = made.asked()
            self.assertEqual((word, found), asked(talk, sayings))
            self.assertEqual(made.follows(saying=saying), follows(talk, sayings, saying=saying))
            if word == "yes":
                told = made.ranged(total=total)
                self.assertIs(shows_range(talk, sayings, told, total=total), True)
                self.assertEqual(told, ranged(talk, sayings, total=total))
            else:
                refused(self, NoWorld, made.ranged, total=total)

    def test_clashes_against_all_worlds(self):
        maker = Maker(134)
        told = []
        while len(told) < 120:
            talk = maker.among(*SMALL)
            made = Store(talk)
            for _ in range(maker.whole(1, 7)):
                saying = maker.saying(talk, 2)
                if cases_many((*made.standing().values(), saying)) <= 32:
                    made.say(saying)
            if len(made) > 2:
                made.drop(maker.among(*made.standing()))
            told.append(self.check_clash(talk, made))
            self.assertEqual(told[-1], not worlds_of(talk, tuple(made.standing().values())))
        self.assertGreater(min(told.count(True), told.count(False)), 20)

    def test_a_least_clash_of_twelve(self):
        talk = Talk(NAMES, NUMBERS, most=20)
        made = store(*["[1 #a <= 1 #b]", "([1 #b <= 1 #c] or [c is {}])", "[1 m + 4 <= 1 n]", "~[1 m = 3]", "[1 #c + 1 <= 1 m]", "[1 n <= 1 #a]", "([2 | 1 m] or [2 | 1 n])", "[a in {*}]",
                       "[1 #{*} <= 19]", "~[3 | 1 #b]", "[1 <= 1 #c]", "([1 #a <= 18] or [1 #b <= 18])"], talk=talk)
        self.assertEqual(len(made), 12)
        self.assertTrue(self.check_clash(talk, made))
        self.assertEqual(made.clash()[0], (0, 1, 2, 4, 5, 10))

    def test_none_says_nothing(self):
        made = Store(TALK)
        self.assertEqual(made.asked()[0], "yes")
        self.assertIsNone(made.clash())
        self.assertEqual(made.ranged(total=(("num", 1, "n"),))[::3], (0, 5))
        made.say(("equal", (), (("lot", 1),)))
        self.assertEqual(made.clash()[0], (0,))
        self.assertTrue(self.check_clash(TALK, made))

    def test_refused(self):
        made = store("[a in b]")
        for thing in NONE:
            self.assertIs(refused(self, NoSaying, made.follows, saying=thing).saying, thing)
        for thing in [*no_wholes(), (("num", 1, "m"),), ("lot", 1), [("lot", 1)], "1", nested(16)]:
            if thing != ():
                self.assertIs(refused(self, NoSum, made.ranged, total=thing).total, thing)
        made.say(many_cases(5))
        self.assertEqual(refused(self, TooMany, made.follows, saying=("equal", (), ())).many, 64)
        with self.assertRaises(TypeError):
            made.follows(A_IN_B)
        with self.assertRaises(TypeError):
            made.ranged(())


class StaysAsItWas(unittest.TestCase):
    def test_what_is_handed_in_and_the_answers(self):
        sayings = [read_saying("[3 <= 1 #a]"), read_saying("[a in b]"), read_saying("[1 #b <= 2]")]
        given = copy.deepcopy(sayings)
        made = Store(TALK)
        made.say_all(sayings)
        self.assertEqual(made.asked(), made.asked())
        self.assertEqual(made.clash(), made.clash())
        self.assertEqual(made.follows(saying=A_IN_B), made.follows(saying=A_IN_B))
        self.assertEqual((sayings, TALK), (given, Talk(("a", "b"), ("n",), most=5)))


if __name__ == "__main__":
    unittest.main()
