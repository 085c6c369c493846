import copy
import itertools
import unittest

from countfold.errors import NoNumber
from countfold.talks import Talk
from countfold.worlds import counted, is_world, members_of, number_of, world_at, worlds_many
from tests import plainly
from tests.things import THIRTY, nested, no_wholes, refused

NAMES, NUMBERS = ("a", "b", "c"), ("m", "n")
TALK = Talk(("a", "b"), ("n",), most=5)
SMALL = [Talk(NAMES[:sets], NUMBERS[:numbers], most=most)
         for sets in range(4) for numbers in range(3) for most in [1, 2, 3]]


class IsWorld(unittest.TestCase):
    def test_worlds(self):
        for world in [((0, 0, 0, 0), (0,)), ((1, 2, 0, 2), (5,)), ((5, 0, 0, 0), (5,)), ((0, 0, 0, 5), (0,))]:
            self.assertIs(is_world(TALK, world), True, world)
        self.assertIs(is_world(thing=((12,), ()), talk=Talk()), True)
        self.assertIs(is_world(Talk((), NUMBERS, most=1), ((1,), (0, 1))), True)
        self.assertIs(is_world(Talk(("a",), ("n",), most=THIRTY), ((1, THIRTY - 1), (THIRTY,))), True)

    def test_just_those_that_there_are(self):
        for talk in [Talk(("a",), ("n",), most=2), Talk((), ("m", "n"), most=2), Talk(("a", "b"), most=2)]:
            worlds = plainly.all_worlds(talk)
            for counts in itertools.product(range(-1, 4), repeat=talk.regions()):
                for values in itertools.product(range(-1, 4), repeat=len(talk.numbers())):
                    self.assertIs(is_world(talk, (counts, values)), (counts, values) in worlds)

    def test_as_many_counts_and_values_as_there_are(self):
        for counts, values in itertools.product(range(7), range(4)):
            self.assertIs(is_world(TALK, ((0,) * counts, (0,) * values)), (counts, values) == (4, 1))
        self.assertIs(is_world(Talk(), ((0,), (0,))), False)
        self.assertIs(is_world(Talk(), ((), ())), False)

    def test_above_most_and_below_nought(self):
        for counts, values in [((6, 0, 0, 0), (0,)), ((2, 2, 2, 0), (0,)), ((0, 0, 1, 5), (0,)), ((1, 1, 1, 1), (6,)),
                               ((0, 0, 0, -1), (0,)), ((-1, 0, 0, 6), (0,)), ((0, 0, 0, 0), (-1,)),
                               ((THIRTY, 0, 0, 0), (0,)), ((0, 0, 0, 0), (THIRTY,)), ((THIRTY, -THIRTY, 0, 0), (0,))]:
            self.assertIs(is_world(TALK, (counts, values)), False, (counts, values))

    def test_numbers_alone_stand_in_it(self):
        for thing in no_wholes():
            self.assertIs(is_world(TALK, ((0, 0, 0, thing), (0,))), False)
            self.assertIs(is_world(TALK, ((thing, 0, 0, 0), (0,))), False)
            self.assertIs(is_world(TALK, ((0, 0, 0, 0), (thing,))), False)

    def test_nothing_else(self):
        counts, values = (0, 0, 0, 0), (0,)
        for thing in [*no_wholes(), 0, THIRTY, (), (counts,), (counts, values, ()), (counts, values, values),
                      [counts, values], (list(counts), values), (counts, list(values)), counts + values,
                      (values, counts), {counts: values}, (dict.fromkeys(range(4), 0), values),
                      (counts, {0: 0}), (counts, 0), (counts, None), (0, values), ("0000", values), (counts, "0"),
                      (nested(15), nested(15))]:
            self.assertIs(is_world(TALK, thing), False, thing)


class GoneThrough(unittest.TestCase):
    def test_each_number_s_world_as_they_rise_and_back(self):
        for talk in SMALL:
            worlds = plainly.all_worlds(talk)
            self.assertEqual(worlds, sorted(worlds))
            self.assertEqual(worlds_many(talk), len(worlds))
            self.assertEqual([world_at(talk, number) for number in range(len(worlds))], worlds)
            self.assertEqual([number_of(talk, world) for world in worlds], list(range(len(worlds))))
            self.assertTrue(all(is_world(talk, world) for world in worlds))

    def test_first_and_last(self):
        self.assertEqual(world_at(TALK, 0), ((0, 0, 0, 0), (0,)))
        self.assertEqual(world_at(TALK, 1), ((0, 0, 0, 0), (1,)))
        self.assertEqual(world_at(TALK, 6), ((0, 0, 0, 1), (0,)))
        self.assertEqual(worlds_many(TALK), 126 * 6)
        self.assertEqual(world_at(TALK, 126 * 6 - 1), ((5, 0, 0, 0), (5,)))

    def test_by_name_and_of_tuples(self):
        self.assertEqual(worlds_many(talk=Talk()), 13)
        world = world_at(number=7, talk=TALK)
        self.assertEqual((type(world), type(world[0]), type(world[1])), (tuple, tuple, tuple))
        self.assertEqual(number_of(world=world, talk=TALK), 7)


class Reckoned(unittest.TestCase):
    def test_how_many(self):
        self.assertEqual(worlds_many(Talk(most=THIRTY)), THIRTY + 1)
        self.assertEqual(worlds_many(Talk((), NUMBERS, most=THIRTY)), (THIRTY + 1) ** 3)
        self.assertEqual(worlds_many(Talk(("a",), most=THIRTY)), (THIRTY + 2) * (THIRTY + 1) // 2)
        many = 1
        for k in range(1, 9):
            many = many * (THIRTY + k) // k
        self.assertEqual(worlds_many(Talk(NAMES, most=THIRTY)), many)
        self.assertEqual(worlds_many(Talk(NAMES, NUMBERS, most=THIRTY)), many * 10 ** 60)

    def test_there_and_back(self):
        for sets, numbers in itertools.product(range(4), range(3)):
            talk = Talk(NAMES[:sets], NUMBERS[:numbers], most=THIRTY)
            many = worlds_many(talk)
            for number in [0, 1, 2, THIRTY, many // 3, many // 2, many * 6 // 7, many - 2, many - 1]:
                world = world_at(talk, number)
                self.assertIs(is_world(talk, world), True)
                self.assertEqual(number_of(talk, world), number)

    def test_worlds_of_great_counts(self):
        talk = Talk(NAMES, NUMBERS, most=THIRTY)
        eighth = THIRTY // 8
        for world in [((0,) * 8, (0, 0)), ((eighth,) * 8, (THIRTY, 1)), ((0,) * 7 + (THIRTY,), (0, THIRTY)),
                      ((1, 0, eighth, 5, 0, 0, THIRTY // 3, 7), (3, 4)), ((THIRTY,) + (0,) * 7, (THIRTY, THIRTY))]:
            self.assertEqual(world_at(talk, number_of(talk, world)), world)
        self.assertEqual(world_at(talk, worlds_many(talk) - 1), ((THIRTY,) + (0,) * 7, (THIRTY, THIRTY)))
        self.assertEqual(world_at(talk, 10 ** 60), ((0,) * 7 + (1,), (0, 0)))

    def test_they_rise(self):
        talk = Talk(("a", "b"), ("n",), most=THIRTY)
        for number in [0, 10 ** 30 - 1, 10 ** 31, worlds_many(talk) // 5, worlds_many(talk) - 4]:
            worlds = [world_at(talk, number + step) for step in range(4)]
            self.assertEqual(worlds, sorted(set(worlds)))


class NoNumbers(unittest.TestCase):
    def test_of_anything_that_is_no_world_s_number(self):
        for talk in [TALK, Talk(), Talk(NAMES, NUMBERS, most=THIRTY)]:
            many = worlds_many(talk)
            for thing in [*no_wholes(), -1, many, many + 1, -many, 10 ** 400]:
                self.assertIs(refused(self, NoNumber, world_at, talk, thing).number, thing)
            self.assertEqual(world_at(talk, many - 1)[0][0], talk.most())


class MembersOf(unittest.TestCase):
    def test_things_by_region(self):
        self.assertEqual(members_of(TALK, ((1, 2, 0, 2), (3,))), {"a": [1, 2, 3, 4], "b": [3, 4]})
        self.assertEqual(members_of(TALK, ((0, 1, 3, 1), (0,))), {"a": [0, 4], "b": [1, 2, 3, 4]})
        self.assertEqual(members_of(TALK, ((5, 0, 0, 0), (0,))), {"a": [], "b": []})
        self.assertEqual(members_of(world=((3,), ()), talk=Talk()), {})
        self.assertEqual(members_of(Talk(NAMES), ((1,) * 8, ())),
                         {"a": [1, 3, 5, 7], "b": [2, 3, 6, 7], "c": [4, 5, 6, 7]})

    def test_two_hundred_things(self):
        talk = Talk(("a", "b"), most=200)
        told = members_of(talk, ((20, 80, 60, 40), ()))
        self.assertEqual(told, {"a": [*range(20, 100), *range(160, 200)], "b": list(range(100, 200))})

    def test_new_lists_each_time(self):
        world = ((0, 0, 0, 2), (3,))
        first = members_of(TALK, world)
        self.assertEqual([type(first), *map(type, first.values())], [dict, list, list])
        first["a"].append(99)
        self.assertEqual(first["b"], [0, 1])
        del first["b"]
        self.assertEqual(members_of(TALK, world), {"a": [0, 1], "b": [0, 1]})
        self.assertEqual(world, ((0, 0, 0, 2), (3,)))


class Counted(unittest.TestCase):
    def test_members_told_by_members_of(self):
        for talk in SMALL:
            for world in plainly.all_worlds(talk)[::3]:
                many = sum(world[0])
                told = counted(talk, members_of(talk, world), many=many, values=world[1])
                self.assertEqual(told, world)
                self.assertTrue(is_world(talk, told))

    def test_other_members(self):
        for members, many, counts in [({"a": [4], "b": [0, 4]}, 5, (3, 0, 1, 1)), ({"a": [], "b": []}, 4, (4, 0, 0, 0)),
                                      ({"a": [0, 2, 4], "b": [1, 3]}, 5, (0, 3, 2, 0)),
                                      ({"b": [0], "a": [0]}, 1, (0, 0, 0, 1)), ({"a": [1, 3], "b": []}, 4, (2, 2, 0, 0))]:
            self.assertEqual(counted(TALK, members, many=many, values=(3,)), (counts, (3,)))

    def test_each_way_to_lie(self):
        talk = Talk(NAMES, most=3)
        for regions in itertools.product(range(8), repeat=3):
            members = {name: [thing for thing in range(3) if regions[thing] & 1 << place]
                       for place, name in enumerate(NAMES)}
            self.assertEqual(counted(talk, members, many=3), (tuple(map(regions.count, range(8))), ()))

    def test_no_things_and_no_values(self):
        self.assertEqual(counted(TALK, {"a": [], "b": []}, many=0, values=(0,)), ((0, 0, 0, 0), (0,)))
        self.assertEqual(counted(Talk(("a",)), {"a": [0]}, many=2), ((1, 1), ()))
        self.assertEqual(counted(Talk(), {}, many=12), ((12,), ()))
        self.assertEqual(counted(members={}, talk=Talk(most=THIRTY), many=THIRTY), ((THIRTY,), ()))

    def test_values_as_a_list_and_as_great_as_most(self):
        talk = Talk((), NUMBERS, most=5)
        values = [5, 0]
        self.assertEqual(counted(talk, {}, many=5, values=values), ((5,), (5, 0)))
        self.assertEqual(values, [5, 0])

    def test_many_and_values_by_name_alone(self):
        with self.assertRaises(TypeError):
            counted(Talk(), {}, 1)
        with self.assertRaises(TypeError):
            counted(TALK, {"a": [], "b": []}, 1, (0,))

    def test_too_many_things(self):
        for many in [6, 7, THIRTY]:
            error = refused(self, NoNumber, counted, TALK, {"a": [0], "b": []}, many=many, values=(1,))
            self.assertIs(error.number, many)

    def test_the_first_value_that_is_none(self):
        talk = Talk((), NUMBERS, most=5)
        for thing in [*no_wholes(), -1, 6, THIRTY]:
            for values in [(thing, 0), (0, thing), (thing, "x"), [5, thing], [thing, -7]]:
                self.assertIs(refused(self, NoNumber, counted, talk, {}, many=1, values=values).number, thing)

    def test_many_is_refused_first(self):
        self.assertEqual(refused(self, NoNumber, counted, TALK, {"a": [], "b": []}, many=6, values=(7,)).number, 6)
        self.assertEqual(refused(self, NoNumber, counted, TALK, {"a": [], "b": []}, many=5, values=(7,)).number, 7)

    def test_what_is_handed_in_stays(self):
        members = {"a": [0, 2], "b": [2, 3]}
        given = copy.deepcopy(members)
        counted(TALK, given, many=5, values=(1,))
        refused(self, NoNumber, counted, TALK, given, many=5, values=(9,))
        self.assertEqual(given, members)


if __name__ == "__main__":
    unittest.main()
