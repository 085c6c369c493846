import copy
import itertools
import unittest

from countfold.sayings import is_saying
from countfold.talks import Talk
from countfold.truth import is_true, is_true_of
from countfold.worlds import counted, members_of
from tests import plainly
from tests.things import THIRTY

TALK = Talk(("a", "b"), ("n",))
WORLD = ((1, 2, 0, 3), (7,))
FIVE, SIX = (("size", 1, "a"),), (("size", 1, ("all",)),)
TRUE, FALSE = ("within", "b", "a"), ("within", "a", "b")
PLAIN = [("atmost", (("size", 1, "a"),), (("num", 1, "n"),)), ("equal", (("size", 2, "b"), ("lot", -1)), (("num", 1, "n"),)),
         ("parts", 2, (("size", 1, ("all",)), ("num", -3, "n"))), ("within", ("and", "a", "b"), ("none",)),
         ("same", "a", ("not", "b")), TRUE, FALSE]


def lots(k):
    return (("lot", k),)


class IsTrue(unittest.TestCase):
    def check(self, saying, told):
        self.assertIs(is_saying(TALK, saying), True, saying)
        self.assertIs(is_true(TALK, WORLD, saying), told, saying)
        self.assertIs(is_true(TALK, WORLD, ("not", saying)), not told, saying)

    def test_atmost(self):
        for left, right, told in [(FIVE, SIX, True), (SIX, FIVE, False), (SIX, lots(6), True), (lots(6), SIX, True),
                                  (lots(-1), (), True), ((), lots(-1), False), ((), (), True),
                                  ((("num", 1, "n"),), SIX, False), ((("num", -1, "n"),), lots(-7), True)]:
            self.check(("atmost", left, right), told)

    def test_equal(self):
        for left, right, told in [(FIVE, lots(5), True), (FIVE, SIX, False), (SIX, FIVE, False), ((), lots(0), True),
                                  (lots(-3), lots(3), False), ((("num", 2, "n"),), lots(14), True)]:
            self.check(("equal", left, right), told)

    def test_parts(self):
        for g, addends, told in [(5, FIVE, True), (2, FIVE, False), (2, SIX, True), (3, SIX, True), (4, SIX, False),
                                 (2, (), True), (THIRTY, (), True), (7, lots(0), True), (3, lots(-6), True),
                                 (3, lots(-5), False), (3, lots(-7), False), (6, lots(3), False), (2, lots(1), False),
                                 (2, (("num", -1, "n"),), False), (7, (("num", -3, "n"),), True)]:
            self.check(("parts", g, addends), told)

    def test_within(self):
        for left, right, told in [("b", "a", True), ("a", "b", False), (("none",), ("none",), True), ("a", "a", True),
                                  (("all",), "a", False), ("a", ("all",), True), (("but", "b", "a"), ("none",), True),
                                  (("not", "a"), ("not", "b"), True), (("not", "b"), ("not", "a"), False)]:
            self.check(("within", left, right), told)

    def test_same(self):
        for left, right, told in [("a", "a", True), ("a", "b", False), ("b", "a", False), (("and", "a", "b"), "b", True),
                                  (("or", "a", "b"), "a", True), (("but", "b", "a"), ("none",), True),
                                  (("all",), "a", False), ("a", ("all",), False), (("not", "a"), ("not", "b"), False)]:
            self.check(("same", left, right), told)

    def test_not_both_either(self):
        for one, other in itertools.product([TRUE, FALSE], repeat=2):
            first, second = one == TRUE, other == TRUE
            self.check(("both", one, other), first and second)
            self.check(("either", one, other), first or second)
            self.check(("both", ("not", one), other), not first and second)
            self.check(("either", one, ("not", other)), first or not second)
        self.check(("not", TRUE), False)
        self.check(("not", ("not", TRUE)), True)

    def test_made_of_made_ones(self):
        for first, second, third in itertools.product([TRUE, FALSE], repeat=3):
            one, two, three = first == TRUE, second == TRUE, third == TRUE
            self.check(("either", ("both", first, second), third), one and two or three)
            self.check(("both", first, ("either", second, third)), one and (two or three))
            self.check(("both", ("not", ("both", first, second)), ("either", third, first)),
                       not (one and two) and (three or one))

    def test_thirty_figures(self):
        talk = Talk(("a",), ("n",), most=THIRTY)
        world = ((1, THIRTY - 1), (THIRTY,))
        size, number = (("size", THIRTY, "a"),), (("num", THIRTY, "n"), ("lot", -THIRTY))
        self.assertIs(is_true(talk, world, ("equal", size, number)), True)
        self.assertIs(is_true(talk, world, ("atmost", size + lots(1), number)), False)
        self.assertIs(is_true(talk, world, ("parts", THIRTY, size)), True)
        self.assertIs(is_true(talk, world, ("parts", THIRTY - 1, number)), True)
        self.assertIs(is_true(talk, world, ("parts", THIRTY, number + lots(1))), False)

    def test_in_each_world_as_gone_through(self):
        talk = Talk(("a", "b"), ("n",), most=2)
        sayings = PLAIN + [("not", PLAIN[0]), ("both", PLAIN[1], PLAIN[4]), ("either", PLAIN[2], ("not", PLAIN[3]))]
        for world in plainly.all_worlds(talk):
            for saying in sayings:
                self.assertIs(is_true(talk, world, saying), plainly.truth(talk, world, saying), (world, saying))

    def test_by_name_and_of_no_sets(self):
        self.assertIs(is_true(saying=("same", ("all",), ("none",)), world=((0,), ()), talk=Talk()), True)
        self.assertIs(is_true(Talk(), ((1,), ()), ("same", ("all",), ("none",))), False)

    def test_a_saying_much_deeper(self):
        self.assertIs(is_true(TALK, WORLD, plainly.deep_saying(20001, TRUE)), True)
        self.assertIs(is_true(TALK, WORLD, plainly.deep_saying(20000, TRUE)), False)
        for word, side, told in [("both", 1, False), ("both", 2, False), ("either", 1, True), ("either", 2, True)]:
            saying = FALSE if word == "both" else TRUE
            for _ in range(20000):
                saying = (word, saying, TRUE) if side == 1 else (word, FALSE, saying)
            self.assertIs(is_true(TALK, WORLD, saying), told)

    def test_what_is_handed_in_stays(self):
        for saying in PLAIN:
            given = copy.deepcopy(saying)
            is_true(TALK, WORLD, given)
            self.assertEqual(given, saying)


class IsTrueOf(unittest.TestCase):
    def test_members_told_by_members_of(self):
        talk = Talk(("a", "b"), ("n",), most=2)
        for world in plainly.all_worlds(talk):
            members = members_of(talk, world)
            for saying in PLAIN:
                told = is_true_of(talk, members, saying, many=sum(world[0]), values=world[1])
                self.assertIs(told, is_true(talk, world, saying))

    def test_any_numbering(self):
        talk = Talk(("a", "b"), ("n",), most=4)
        for regions in itertools.product(range(4), repeat=4):
            members = {name: [thing for thing in range(4) if regions[thing] & 1 << place]
                       for place, name in enumerate(("a", "b"))}
            world = counted(talk, members, many=4, values=(3,))
            for saying in PLAIN:
                told = is_true_of(talk, members, saying, many=4, values=[3])
                self.assertIs(told, is_true(talk, world, saying))
                self.assertIs(told, plainly.truth(talk, world, saying))

    def test_without_values_and_by_name(self):
        talk = Talk(("a",))
        self.assertIs(is_true_of(talk, {"a": [1, 2]}, ("equal", FIVE, lots(2)), many=3), True)
        self.assertIs(is_true_of(many=2, saying=("same", "a", ("all",)), members={"a": [1]}, talk=talk), False)
        self.assertIs(is_true_of(Talk(), {}, ("equal", SIX, ()), many=0), True)
        with self.assertRaises(TypeError):
            is_true_of(talk, {"a": []}, TRUE, 3)

    def test_nothing_is_refused(self):
        talk = Talk(("a",), ("n",), most=2)
        self.assertIs(is_true_of(talk, {"a": [0, 4]}, ("equal", FIVE, lots(2)), many=5, values=(9,)), True)
        self.assertIs(is_true_of(talk, {"a": [0]}, ("equal", SIX, (("num", 1, "n"),)), many=9, values=(9,)), True)

    def test_what_is_handed_in_stays(self):
        members, values = {"a": [0, 2], "b": [2, 3]}, [1]
        for saying in PLAIN:
            is_true_of(TALK, members, saying, many=5, values=values)
        self.assertEqual((members, values), ({"a": [0, 2], "b": [2, 3]}, [1]))


if __name__ == "__main__":
    unittest.main()
