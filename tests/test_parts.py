import itertools
import unittest

from countfold.errors import NoWorld
from countfold.parts import joined, led, part_of, shared
from countfold.talks import Talk
from countfold.worlds import is_world
from tests import plainly
from tests.makers import NAMES, NUMBERS, Maker
from tests.test_prover import said
from tests.things import THIRTY, refused

TALK = Talk(NAMES, NUMBERS, most=20)


def parts(talk):
    """Each part of a talk."""
    return [Talk(sets, numbers, most=talk.most()) for many in range(len(talk.sets()) + 1)
            for sets in itertools.combinations(talk.sets(), many)
            for more in range(len(talk.numbers()) + 1) for numbers in itertools.combinations(talk.numbers(), more)]


def led_by_things(talk, world, part):
    """The world of the part with the same things."""
    found = plainly.members(talk, world)
    counts = [0] * 2 ** len(part.sets())
    for thing in found[None]:
        counts[sum(2 ** place for place, name in enumerate(part.sets()) if thing in found[name])] += 1
    values = dict(zip(talk.numbers(), world[1]))
    return tuple(counts), tuple(values[name] for name in part.numbers())


class PartOf(unittest.TestCase):
    def test_told(self):
        for texts, text in [([], ";;20"), (["[. = 3]"], ";;20"), (["[a in b]"], "a,b;;20"), (["[1 n <= 2]"], ";n;20"),
                            (["[c is {}]", "~[2 | 1 m]"], "c;m;20"), (["([a in (c & !b)] or [1 #{*} = 1 m + 1 n])"], "a,b,c;m,n;20"),
                            (["[0 #b <= 0 n]"], "b;n;20")]:
            self.assertEqual(str(part_of(TALK, said(*texts))), text)
        self.assertIs(type(part_of(TALK, ())), Talk)
        self.assertEqual(part_of(sayings=said("[a in b]"), talk=Talk(NAMES, most=THIRTY)), Talk(("a", "b"), most=THIRTY))


class Shared(unittest.TestCase):
    def test_told(self):
        for one, other, both in [("a,b;n;20", "b,c;n;20", "b;n;20"), ("a;;20", "b;;20", ";;20"), (";;20", ";;20", ";;20"),
                                 ("a,b,c;m,n;20", "a,b,c;m,n;20", "a,b,c;m,n;20"), ("a,b,c;m;20", ";n;20", ";;20"), ("a,c;m,n;20", "a,b,c;n;20", "a,c;n;20")]:
            found = [self.talk(text) for text in (one, other)]
            self.assertEqual(str(shared(*found)), both)
            self.assertEqual(str(shared(*found[::-1])), both)
            self.assertIs(type(shared(one=found[0], other=found[1])), Talk)

    def talk(self, text):
        sets, numbers, most = [tuple(part.split(",")) if part else () for part in text.split(";")]
        return Talk(sets, numbers, most=int(most[0]))


class Led(unittest.TestCase):
    WORLD = ((1, 2, 3, 4, 0, 1, 2, 0), (7, 9))

    def test_told(self):
        for sets, numbers, told in [(NAMES, NUMBERS, self.WORLD), ((), (), ((13,), ())), (("a",), ("n",), ((6, 7), (9,))),
                                    (("c",), ("m",), ((10, 3), (7,))), (("b", "c"), (), ((3, 7, 1, 2), ())), (("a", "c"), NUMBERS, ((4, 6, 2, 1), (7, 9)))]:
            self.assertEqual(led(TALK, self.WORLD, Talk(sets, numbers, most=20)), told)
        self.assertEqual(led(part=Talk(("a",), most=20), world=self.WORLD, talk=TALK), ((6, 7), ()))

    def test_thing_by_thing(self):
        for talk in (Talk(("a", "b"), ("n",), most=3), Talk(NAMES, most=2), Talk((), NUMBERS, most=3)):
            for part in parts(talk):
                for world in plainly.all_worlds(talk):
                    self.assertEqual(led(talk, world, part), led_by_things(talk, world, part))

    def test_the_talk_itself_and_on_to_the_shared_part(self):
        maker = Maker(97)
        for _ in range(40):
            world = (tuple(maker.whole(0, 2) for _ in range(8)), (maker.whole(0, 20), maker.whole(0, 20)))
            self.assertEqual(led(TALK, world, TALK), world)
            for one, other in itertools.product(parts(TALK)[::3], parts(TALK)[::2]):
                both = shared(one, other)
                self.assertEqual(led(one, led(TALK, world, one), both), led(TALK, world, both))
                self.assertEqual(led(other, led(TALK, world, other), both), led(TALK, world, both))


class Joined(unittest.TestCase):
    def check(self, talk, one, world, other, other_world):
        found = joined(talk, one, world, other, other_world)
        self.assertTrue(is_world(talk, found))
        self.assertEqual(led(talk, found, one), world)
        self.assertEqual(led(talk, found, other), other_world)
        return found

    def test_told(self):
        one, other = Talk(("a", "b"), ("n",), most=20), Talk(("b", "c"), ("m", "n"), most=20)
        # In b are 5 things, 4 are not.
        self.check(TALK, one, ((3, 1, 0, 5), (8,)), other, ((2, 5, 2, 0), (4, 8)))
        self.assertEqual(joined(TALK, one, ((3, 0, 2, 0), (8,)), one, ((3, 0, 2, 0), (8,)))[0][::1][:4], (3, 0, 2, 0))
        self.check(TALK, TALK, Led.WORLD, TALK, Led.WORLD)
        self.assertEqual(joined(TALK, TALK, Led.WORLD, TALK, Led.WORLD), Led.WORLD)
        self.assertEqual(joined(TALK, TALK, Led.WORLD, Talk(most=20), ((13,), ())), Led.WORLD)
        self.assertEqual(joined(other_world=((13,), ()), other=Talk(most=20), world=Led.WORLD, one=TALK, talk=TALK), Led.WORLD)

    def test_nothing_shared_but_how_many_things(self):
        one, other = Talk(("a",), ("m",), most=20), Talk(("b",), ("n",), most=20)
        self.check(TALK, one, ((2, 5), (1,)), other, ((6, 1), (2,)))
        refused(self, NoWorld, joined, TALK, one, ((2, 5), (1,)), other, ((6, 2), (2,)))
        refused(self, NoWorld, joined, TALK, one, ((2, 5), (1,)), other, ((6, 0), (2,)))

    def test_one_thing_or_one_number_otherwise(self):
        one, other = Talk(("a", "b"), ("n",), most=20), Talk(("b", "c"), ("m", "n"), most=20)
        world, other_world = ((3, 1, 0, 5), (8,)), ((2, 5, 2, 0), (4, 8))
        for counts, values in [((3, 1, 0, 6), (8,)), ((3, 2, 0, 5), (8,)), ((3, 2, 0, 4), (8,)), ((3, 1, 0, 5), (7,)), ((0, 0, 0, 0), (8,))]:
            refused(self, NoWorld, joined, TALK, one, (counts, values), other, other_world)
            refused(self, NoWorld, joined, TALK, other, other_world, one, (counts, values))
        self.check(TALK, one, ((2, 2, 3, 2), (8,)), other, other_world)
        self.check(TALK, other, other_world, one, world)
        self.check(TALK, one, world, other, (other_world[0], (0, 8)))

    def test_each_two_worlds_of_small_parts(self):
        for talk in (Talk(("a", "b"), ("n",), most=2), Talk(NAMES, most=2)):
            for one, other in itertools.product(parts(talk), repeat=2):
                both = shared(one, other)
                if len(one) + len(other) > 9:
                    continue
                for world, other_world in itertools.product(plainly.all_worlds(one), plainly.all_worlds(other)):
                    if led(one, world, both) == led(other, other_world, both):
                        self.check(talk, one, world, other, other_world)
                    else:
                        refused(self, NoWorld, joined, talk, one, world, other, other_world)

    def test_of_millions_at_once(self):
        maker = Maker(98)
        talk = Talk(NAMES, NUMBERS, most=THIRTY)
        for _ in range(60):
            world = (tuple(maker.among(0, maker.whole(0, 10 ** 7), THIRTY // 9) for _ in range(8)), (THIRTY, maker.whole(0, THIRTY)))
            one, other = maker.among(*parts(talk)), maker.among(*parts(talk))
            self.check(talk, one, led(talk, world, one), other, led(talk, world, other))


if __name__ == "__main__":
    unittest.main()
