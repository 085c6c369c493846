import unittest

from countfold.errors import NoName, NoRegion, NoTalk
from countfold.talks import Talk
from tests.things import THIRTY, no_texts, no_wholes, refused

NAMES = ["a", "b", "c"]


class Making(unittest.TestCase):
    def test_of_nothing(self):
        talk = Talk()
        self.assertEqual((talk.sets(), talk.numbers(), talk.most()), ((), (), 12))

    def test_by_place(self):
        talk = Talk(("a", "b"), ("n",))
        self.assertEqual((talk.sets(), talk.numbers(), talk.most()), (("a", "b"), ("n",), 12))

    def test_by_name(self):
        talk = Talk(most=3, numbers=("m", "n"), sets=("x",))
        self.assertEqual((talk.sets(), talk.numbers(), talk.most()), (("x",), ("m", "n"), 3))
        self.assertEqual(Talk(numbers=("n",)).numbers(), ("n",))
        self.assertEqual(Talk(("a",), most=1).most(), 1)

    def test_most_by_name_alone(self):
        with self.assertRaises(TypeError):
            Talk((), (), 12)

    def test_the_greatest_talk(self):
        talk = Talk(("a", "abcdefgh", "b"), ("m", "stuvwxyz"), most=THIRTY)
        self.assertEqual(talk.sets(), ("a", "abcdefgh", "b"))
        self.assertEqual(talk.numbers(), ("m", "stuvwxyz"))
        self.assertEqual(talk.most(), THIRTY)

    def test_what_is_told_are_tuples(self):
        talk = Talk(("a",), ("n",))
        self.assertIs(type(talk.sets()), tuple)
        self.assertIs(type(talk.numbers()), tuple)


class MakingRefused(unittest.TestCase):
    def test_too_many_names(self):
        refused(self, NoTalk, Talk, ("a", "b", "c", "d"))
        refused(self, NoTalk, Talk, (), ("a", "b", "c"))

    def test_not_rising_or_twice(self):
        for names in [("b", "a"), ("a", "a"), ("b", "aa"), ("ab", "a")]:
            refused(self, NoTalk, Talk, names)
            refused(self, NoTalk, Talk, (), names)
        refused(self, NoTalk, Talk, ("a", "c", "b"))
        refused(self, NoTalk, Talk, ("a", "b", "b"))

    def test_in_both(self):
        refused(self, NoTalk, Talk, ("a",), ("a",))
        refused(self, NoTalk, Talk, ("a", "b", "c"), ("c", "d"))
        refused(self, NoTalk, Talk, ("a", "c"), ("b", "c"))

    def test_no_name_among_them(self):
        for thing in [*no_texts(), "", "A", "abcdefghi", "a\n", "a b"]:
            refused(self, NoTalk, Talk, (thing,))
            refused(self, NoTalk, Talk, (), (thing,))
            refused(self, NoTalk, Talk, ("a", thing))
            refused(self, NoTalk, Talk, (thing, "z"))
            refused(self, NoTalk, Talk, (), ("a", thing))

    def test_no_tuple(self):
        for thing in ["", "a", "ab", None, True, False, 0, 1, [], ["a"], {}, {"a": 1}]:
            refused(self, NoTalk, Talk, thing)
            refused(self, NoTalk, Talk, (), thing)
            refused(self, NoTalk, Talk, sets=thing)
            refused(self, NoTalk, Talk, numbers=thing)

    def test_no_bound(self):
        for thing in [*no_wholes(), 0, -1, -THIRTY]:
            refused(self, NoTalk, Talk, most=thing)
            refused(self, NoTalk, Talk, ("a",), ("n",), most=thing)

    def test_it_is_made_of_a_text(self):
        self.assertNotEqual(str(refused(self, NoTalk, Talk, None)), "")


class Telling(unittest.TestCase):
    def test_regions(self):
        self.assertEqual([Talk(tuple(NAMES[:many])).regions() for many in range(4)], [1, 2, 4, 8])
        self.assertEqual(Talk((), ("m", "n")).regions(), 1)

    def test_len_is_how_many_unknowns(self):
        for sets, regions in [((), 1), (("a",), 2), (("a", "b"), 4), (("a", "b", "c"), 8)]:
            for numbers in [(), ("m",), ("m", "n")]:
                self.assertEqual(len(Talk(sets, numbers)), regions + len(numbers))

    def test_str(self):
        self.assertEqual(str(Talk(("a", "b"), ("n",), most=12)), "a,b;n;12")
        self.assertEqual(str(Talk()), ";;12")
        self.assertEqual(str(Talk(("a", "bc", "d"), ("m", "n"), most=1)), "a,bc,d;m,n;1")
        self.assertEqual(str(Talk((), ("n",), most=THIRTY)), ";n;" + "9" * 30)

    def test_repr(self):
        self.assertEqual(repr(Talk(("a", "b"), ("n",))), "Talk(2 sets, 1 numbers, most 12)")
        self.assertEqual(repr(Talk(("a",), most=1)), "Talk(1 sets, 0 numbers, most 1)")
        self.assertEqual(repr(Talk((), ("m", "n"), most=7)), "Talk(0 sets, 2 numbers, most 7)")

    def test_equal_where_all_is_alike(self):
        talk = Talk(("a", "b"), ("n",), most=5)
        self.assertIs(talk == Talk(("a", "b"), ("n",), most=5), True)
        self.assertIs(talk != Talk(("a", "b"), ("n",), most=5), False)
        for other in [Talk(("a", "c"), ("n",), most=5), Talk(("a",), ("n",), most=5),
                      Talk(("a", "b"), ("m",), most=5), Talk(("a", "b"), most=5), Talk(("a", "b"), ("n",), most=6)]:
            self.assertIs(talk == other, False)
            self.assertIs(talk != other, True)
        self.assertIs(Talk(("a",)) == Talk((), ("a",)), False)

    def test_equal_to_no_other_thing(self):
        talk = Talk()
        for thing in [*no_texts(), ";;12", ((), (), 12), object()]:
            self.assertIs(talk == thing, False)
            self.assertIs(thing == talk, False)
            self.assertIs(talk != thing, True)


class Lies(unittest.TestCase):
    def test_by_the_bits_of_the_region(self):
        talk = Talk(("a", "b", "c"), ("n",))
        for place, name in enumerate(NAMES):
            told = [talk.lies(region, name) for region in range(8)]
            self.assertEqual(told, [region // 2 ** place % 2 == 1 for region in range(8)])
            self.assertTrue(all(type(truth) is bool for truth in told))
        self.assertIs(talk.lies(name="b", region=2), True)

    def test_no_region(self):
        talk = Talk(("a", "b"), ("n",))
        for thing in [*no_wholes(), -1, 4, 8, THIRTY]:
            self.assertIs(refused(self, NoRegion, talk.lies, thing, "a").region, thing)

    def test_no_name(self):
        talk = Talk(("a", "b"), ("n",))
        for thing in [*no_texts(), "", "c", "n", "ab", "a\n", "A"]:
            self.assertIs(refused(self, NoName, talk.lies, 3, thing).name, thing)
        refused(self, NoName, Talk().lies, 0, "a")

    def test_the_region_is_refused_first(self):
        talk = Talk(("a", "b"), ("n",))
        self.assertEqual(refused(self, NoRegion, talk.lies, 4, "n").region, 4)
        self.assertEqual(refused(self, NoRegion, talk.lies, None, None).region, None)


class Place(unittest.TestCase):
    def test_behind_the_regions(self):
        self.assertEqual(Talk((), ("m", "n")).place("m"), 1)
        self.assertEqual(Talk((), ("m", "n")).place("n"), 2)
        self.assertEqual(Talk(("a", "b"), ("n",)).place(name="n"), 4)
        self.assertEqual(Talk(("a", "b", "c"), ("m", "n")).place("n"), 9)

    def test_no_name(self):
        talk = Talk(("a", "b"), ("n",))
        for thing in [*no_texts(), "", "a", "m", "nn", "n\n", 1, 4]:
            self.assertIs(refused(self, NoName, talk.place, thing).name, thing)
        refused(self, NoName, Talk().place, "n")


class Wider(unittest.TestCase):
    def test_a_set_more_in_its_place(self):
        talk = Talk(("b", "d"), ("n",), most=5)
        for name, sets in [("a", ("a", "b", "d")), ("c", ("b", "c", "d")), ("e", ("b", "d", "e"))]:
            self.assertEqual(talk.wider(name), Talk(sets, ("n",), most=5))
        self.assertEqual(talk.wider(name="c"), talk.wider("c"))
        self.assertEqual(Talk().wider("a"), Talk(("a",)))

    def test_the_talk_stays_as_it_was(self):
        talk = Talk(("b",), ("n",), most=5)
        talk.wider("a")
        self.assertEqual(talk, Talk(("b",), ("n",), most=5))
        self.assertEqual((talk.regions(), len(talk)), (2, 3))

    def test_refused(self):
        talk = Talk(("b", "d"), ("n",))
        for thing in [*no_texts(), "", "b", "d", "n", "A", "abcdefghi", "a\n"]:
            refused(self, NoTalk, talk.wider, thing)
        refused(self, NoTalk, Talk(("a", "b", "c")).wider, "d")
        refused(self, NoTalk, Talk(("a", "b", "c")).wider, "a")


class Halves(unittest.TestCase):
    def test_of_a_talk_without_sets(self):
        self.assertEqual(Talk().halves(0, "a"), (0, 1))

    def test_set_ahead_between_and_behind(self):
        talk = Talk(("b", "d"))
        self.assertEqual([talk.halves(region, "a") for region in range(4)], [(0, 1), (2, 3), (4, 5), (6, 7)])
        self.assertEqual([talk.halves(region, "c") for region in range(4)], [(0, 2), (1, 3), (4, 6), (5, 7)])
        self.assertEqual([talk.halves(region, "e") for region in range(4)], [(0, 4), (1, 5), (2, 6), (3, 7)])
        self.assertEqual(talk.halves(name="c", region=2), (4, 6))

    def test_things_lie_as_they_lay(self):
        for sets in [(), ("b",), ("b", "d")]:
            talk = Talk(sets, ("n",))
            for name in ["a", "c", "e"]:
                wide = talk.wider(name)
                for region in range(talk.regions()):
                    halves = talk.halves(region, name)
                    self.assertIs(type(halves), tuple)
                    self.assertEqual([wide.lies(half, name) for half in halves], [False, True])
                    for other in sets:
                        lies = talk.lies(region, other)
                        self.assertEqual([wide.lies(half, other) for half in halves], [lies, lies])

    def test_no_region(self):
        talk = Talk(("b", "d"), ("n",))
        for thing in [*no_wholes(), -1, 4, 7, THIRTY]:
            self.assertIs(refused(self, NoRegion, talk.halves, thing, "a").region, thing)

    def test_no_talk_is_refused_first(self):
        talk = Talk(("b", "d"), ("n",))
        for thing in [*no_texts(), "", "b", "n", "A"]:
            refused(self, NoTalk, talk.halves, 0, thing)
            refused(self, NoTalk, talk.halves, 9, thing)
            refused(self, NoTalk, talk.halves, None, thing)
        refused(self, NoTalk, Talk(("a", "b", "c")).halves, 8, "d")


class StaysAsItWas(unittest.TestCase):
    def test_what_is_refused_stays(self):
        talk = Talk(("b",), ("n",))
        for call in [talk.wider, talk.place, lambda thing: talk.lies(thing, "b"), lambda thing: talk.lies(0, thing),
                     lambda thing: talk.halves(thing, "a"), lambda thing: talk.halves(0, thing),
                     lambda thing: Talk(sets=thing)]:
            thing = ["a", {"b": [1]}]
            with self.assertRaises((ValueError, LookupError)):
                call(thing)
            self.assertEqual(thing, ["a", {"b": [1]}])
            self.assertEqual(talk, Talk(("b",), ("n",)))


if __name__ == "__main__":
    unittest.main()
