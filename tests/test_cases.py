import copy
import unittest

from countfold.cases import case_at, cases_many, cases_of, holds_in
from countfold.errors import TooMany
from countfold.names import MANY
from countfold.sums import row_of
from countfold.talks import Talk
from countfold.worlds import world_at, worlds_many
from tests import plainly
from tests.makers import Maker
from tests.things import THIRTY, refused

TALK = Talk(("a", "b"), ("n",))
S, T = (("size", 2, "a"), ("lot", 5)), (("num", 3, "n"), ("size", 1, "b"))
# Over regions none, a, b, both and n: s is 5 + 2 a, t is 3 n + b.
S_ROW, T_ROW = (5, 0, 2, 0, 2, 0), (0, 0, 0, 1, 1, 3)
S_LESS_T, T_LESS_S = (5, 0, 2, -1, 1, -3), (-5, 0, -2, 1, -1, 3)
A_NOT_B, IN_ONE = (0, 0, 1, 0, 0, 0), (0, 0, 1, 1, 0, 0)

ATMOST, EQUAL, PARTS = ("atmost", S, T), ("equal", S, T), ("parts", 7, S)
WITHIN, SAME = ("within", "a", "b"), ("same", "a", "b")
P, Q = [("least", T_LESS_S)], [("nought", A_NOT_B)]
NOT_P, NOT_Q = [("least", (4, *S_LESS_T[1:]))], [("least", (-1, *A_NOT_B[1:]))]
OVER, UNDER = ("least", (4, *S_LESS_T[1:])), ("least", (-6, *T_LESS_S[1:]))


def either_deep(deep):
    """A saying of 2 ** deep cases."""
    saying = ("either", WITHIN, WITHIN)
    for _ in range(deep - 1):
        saying = ("both", saying, ("either", WITHIN, WITHIN))
    return saying


def cases(saying):
    return cases_of(TALK, (saying,))


class CasesOf(unittest.TestCase):
    def test_the_rows(self):
        self.assertEqual((row_of(TALK, S), row_of(TALK, T)), (S_ROW, T_ROW))

    def test_each_word(self):
        for saying, told in [(ATMOST, ((("least", T_LESS_S),),)), (EQUAL, ((("nought", S_LESS_T),),)),
                             (PARTS, ((("parts", 7, S_ROW),),)), (WITHIN, ((("nought", A_NOT_B),),)),
                             (SAME, ((("nought", IN_ONE),),))]:
            self.assertEqual(cases(saying), told)
            self.assertEqual(cases(("not", ("not", saying))), told)
        self.assertEqual(cases_of(sayings=(WITHIN,), talk=TALK, most=1), ((("nought", A_NOT_B),),))

    def test_not_of_each_word(self):
        for saying, told in [(ATMOST, ((OVER,),)), (EQUAL, ((UNDER,), (OVER,))), (PARTS, ((("unparts", 7, S_ROW),),)),
                             (WITHIN, ((("least", (-1, 0, 1, 0, 0, 0)),),)), (SAME, ((("least", (-1, 0, 1, 1, 0, 0)),),))]:
            self.assertEqual(cases(("not", saying)), told)
            self.assertEqual(cases(("not", ("not", ("not", saying)))), told)

    def test_the_pieces_are_tuples(self):
        for saying in [ATMOST, EQUAL, PARTS, WITHIN, SAME]:
            for told in (cases(saying), cases(("not", saying)), cases(("both", saying, saying))):
                self.assertIs(type(told), tuple)
                for case in told:
                    self.assertIs(type(case), tuple)
                    self.assertEqual([type(piece) for piece in case], [tuple] * len(case))
                    self.assertEqual([type(piece[-1]) for piece in case], [tuple] * len(case))

    def test_both_and_either(self):
        self.assertEqual(cases(("both", ATMOST, WITHIN)), ((*P, *Q),))
        self.assertEqual(cases(("both", WITHIN, ATMOST)), ((*Q, *P),))
        self.assertEqual(cases(("either", ATMOST, WITHIN)), (tuple(P), tuple(Q)))
        self.assertEqual(cases(("not", ("both", ATMOST, WITHIN))), (tuple(NOT_P), tuple(NOT_Q)))
        self.assertEqual(cases(("not", ("either", ATMOST, WITHIN))), ((*NOT_P, *NOT_Q),))

    def test_within_one_another(self):
        either, other = ("either", ATMOST, WITHIN), ("not", EQUAL)
        self.assertEqual(cases(("both", either, other)),
                         ((*P, UNDER), (*P, OVER), (*Q, UNDER), (*Q, OVER)))
        self.assertEqual(cases(("both", other, either)),
                         ((UNDER, *P), (UNDER, *Q), (OVER, *P), (OVER, *Q)))
        self.assertEqual(cases(("either", ("both", ATMOST, either), other)),
                         ((*P, *P), (*P, *Q), (UNDER,), (OVER,)))
        self.assertEqual(cases(("not", ("both", either, EQUAL))), ((*NOT_P, *NOT_Q), (UNDER,), (OVER,)))
        self.assertEqual(cases(("not", ("either", ("both", ATMOST, WITHIN), EQUAL))),
                         ((*NOT_P, UNDER), (*NOT_P, OVER), (*NOT_Q, UNDER), (*NOT_Q, OVER)))

    def test_of_many_sayings(self):
        either = ("either", ATMOST, WITHIN)
        self.assertEqual(cases_of(TALK, ()), ((),))
        self.assertEqual(cases_of(TALK, (), most=1), ((),))
        self.assertEqual(cases_of(TALK, (either, ("not", EQUAL), PARTS)),
                         tuple((piece, other, ("parts", 7, S_ROW)) for piece in (*P, *Q) for other in (UNDER, OVER)))
        sayings = (either, ("not", EQUAL), ATMOST, ("not", ("both", PARTS, SAME)))
        together = ("both", ("both", ("both", sayings[0], sayings[1]), sayings[2]), sayings[3])
        self.assertEqual(cases_of(TALK, sayings), cases(together))

    def test_none_is_left_out_and_no_row_made_shorter(self):
        twice = ("either", ATMOST, ATMOST)
        self.assertEqual(cases(twice), (tuple(P), tuple(P)))
        self.assertEqual(cases(("both", ATMOST, ATMOST)), ((*P, *P),))
        self.assertEqual(cases(("atmost", (("lot", 4),), (("lot", 2), ("size", 6, "a")))), ((("least", (-2, 0, 6, 0, 6, 0)),),))
        self.assertEqual(cases(("equal", (), ())), ((("nought", (0,) * 6),),))
        self.assertEqual(cases(("within", "a", "a")), ((("nought", (0,) * 6),),))
        self.assertEqual(cases(("parts", 2, (("size", 2, "a"),))), ((("parts", 2, (0, 0, 2, 0, 2, 0)),),))

    def test_seven_deep_behind_not(self):
        saying = plainly.deep_saying(6)
        self.assertEqual(cases(("not", saying)), ((("nought", A_NOT_B),),))
        self.assertEqual(cases(saying), ((("least", (-1, *A_NOT_B[1:])),),))

    def test_too_many(self):
        self.assertEqual(MANY, 32)
        self.assertEqual(len(cases(either_deep(5))), 32)
        for deep in (6, 12, 16):
            self.assertEqual(refused(self, TooMany, cases, either_deep(deep)).many, 2 ** deep)
        sayings = (either_deep(5), ("not", EQUAL))
        self.assertEqual(refused(self, TooMany, cases_of, TALK, sayings).many, 64)
        self.assertEqual(len(cases_of(TALK, sayings, most=64)), 64)
        for most in (0, 1, 63):
            self.assertEqual(refused(self, TooMany, cases_of, TALK, sayings, most=most).many, 64)
        for sayings in [(), (ATMOST,), (WITHIN, PARTS)]:
            self.assertEqual(refused(self, TooMany, cases_of, TALK, sayings, most=0).many, 1)
            self.assertEqual(len(cases_of(TALK, sayings, most=1)), 1)
        self.assertEqual(refused(self, TooMany, cases_of, TALK, (either_deep(12),) * 30).many, 2 ** 360)
        self.assertEqual(refused(self, TooMany, cases_of, TALK, (("not", EQUAL),), most=1).many, 2)


class CasesMany(unittest.TestCase):
    def test_each_word(self):
        for saying, many, turned in [(ATMOST, 1, 1), (EQUAL, 1, 2), (PARTS, 1, 1), (WITHIN, 1, 1), (SAME, 1, 1)]:
            self.assertEqual(cases_many((saying,)), many)
            self.assertEqual(cases_many((("not", saying),)), turned)
            self.assertEqual(cases_many((saying,), turned=True), turned)
            self.assertEqual(cases_many(turned=True, sayings=(("not", saying),)), many)
            self.assertEqual(cases_many((saying,), turned=False), many)

    def test_of_none(self):
        self.assertEqual(cases_many(()), 1)
        self.assertEqual(cases_many((), turned=True), 0)

    def test_both_and_either(self):
        other = ("not", EQUAL)
        three = ("either", ATMOST, other)
        self.assertEqual(cases_many((three,)), 3)
        self.assertEqual(cases_many((three,), turned=True), 1)
        self.assertEqual(cases_many((("both", three, three),)), 9)
        self.assertEqual(cases_many((("both", three, three),), turned=True), 2)
        self.assertEqual(cases_many((("either", three, other),)), 5)
        self.assertEqual(cases_many((("either", EQUAL, EQUAL),), turned=True), 4)
        self.assertEqual(cases_many((("both", EQUAL, ("either", EQUAL, EQUAL)),), turned=True), 6)
        self.assertEqual(cases_many((three, other, EQUAL)), 6)
        self.assertEqual(cases_many((three, other, EQUAL), turned=True), 1 + 1 + 2)

    def test_counted_at_once(self):
        self.assertEqual(cases_many((either_deep(16),)), 65536)
        self.assertEqual(cases_many((either_deep(16),) * 100), 2 ** 1600)
        self.assertEqual(cases_many((either_deep(16),) * 100, turned=True), 1600)
        self.assertEqual(cases_many((("not", EQUAL),) * 5000), 2 ** 5000)
        self.assertEqual(cases_many((EQUAL,) * 5000, turned=True), 10000)

    def test_as_many_as_are_told(self):
        maker = Maker(1)
        for _ in range(300):
            sayings = maker.sayings(TALK, maker.whole(0, 3), 6)
            many = cases_many(sayings)
            if many <= 500:
                self.assertEqual(len(cases_of(TALK, sayings, most=500)), many)
            turned = cases_many(sayings, turned=True)
            if sayings and turned <= 500:
                together = sayings[0]
                for saying in sayings[1:]:
                    together = ("both", together, saying)
                self.assertEqual(len(cases_of(TALK, (("not", together),), most=500)), turned)


class HoldsIn(unittest.TestCase):
    def test_each_kind(self):
        talk = Talk(("a",), ("n",))
        world = ((2, 3), (4,))
        # 5 + 3 - 2 * 4 is 0.
        row = (5, 0, 1, -2)
        for more in range(-4, 5):
            moved = (5 + more, *row[1:])
            self.assertIs(holds_in(talk, world, ("least", moved)), more >= 0)
            self.assertIs(holds_in(talk, world, ("nought", moved)), more == 0)
            for g in (2, 3, 7):
                self.assertIs(holds_in(talk, world, ("parts", g, moved)), more % g == 0)
                self.assertIs(holds_in(talk, world, ("unparts", g, moved)), more % g != 0)
        self.assertIs(holds_in(piece=("least", (0, 1, 0, 0)), talk=talk, world=((0, 1), (0,))), True)

    def test_of_thirty_figures(self):
        talk = Talk((), ("n",), most=THIRTY)
        world = ((0,), (THIRTY,))
        self.assertIs(holds_in(talk, world, ("nought", (-THIRTY ** 2, 5, THIRTY))), True)
        self.assertIs(holds_in(talk, world, ("least", (-THIRTY ** 2 - 1, 5, THIRTY))), False)
        self.assertIs(holds_in(talk, world, ("parts", THIRTY, (0, 5, THIRTY))), True)
        self.assertIs(holds_in(talk, world, ("unparts", THIRTY, (1, 5, THIRTY))), True)


class CaseAt(unittest.TestCase):
    def test_the_first_one(self):
        talk = Talk(("a",), ("n",))
        few, many = ("atmost", (("size", 1, "a"),), (("lot", 3),)), ("atmost", (("lot", 2),), (("size", 1, "a"),))
        none = ("within", "a", ("none",))
        for count in range(6):
            world = ((0, count), (0,))
            self.assertEqual(case_at(talk, (("either", few, many),), world), 0 if count <= 3 else 1)
            self.assertEqual(case_at(talk, (("either", many, few),), world), 1 if count < 2 else 0)
            self.assertEqual(case_at(talk, (few, ("either", none, many)), world),
                             0 if count == 0 else 1 if count in (2, 3) else None)
        self.assertEqual(case_at(talk, (), ((0, 0), (0,))), 0)
        self.assertEqual(case_at(world=((0, 0), (0,)), sayings=(), talk=talk, most=1), 0)
        self.assertIsNone(case_at(talk, (few, many), ((0, 1), (0,))))

    def test_too_many(self):
        talk = Talk(("a", "b"))
        world = ((0,) * 4, ())
        self.assertEqual(case_at(talk, (either_deep(5),), world), 0)
        self.assertEqual(refused(self, TooMany, case_at, talk, (either_deep(6),), world).many, 64)
        self.assertEqual(case_at(talk, (either_deep(6),), world, most=64), 0)
        self.assertEqual(refused(self, TooMany, case_at, talk, (either_deep(6),), world, most=63).many, 64)
        self.assertEqual(refused(self, TooMany, case_at, talk, (), world, most=0).many, 1)

    def test_true_just_where_some_case_is(self):
        maker = Maker(2)
        for talk in [Talk(("a",), ("n",), most=3), Talk(("a", "b"), most=3), Talk((), ("m", "n"), most=3)]:
            for _ in range(60):
                sayings = maker.sayings(talk, maker.whole(0, 3), 4)
                if cases_many(sayings) > 100:
                    continue
                found = cases_of(talk, sayings, most=100)
                for number in range(0, worlds_many(talk), 3):
                    world = world_at(talk, number)
                    holding = [all(holds_in(talk, world, piece) for piece in case) for case in found]
                    self.assertIs(any(holding), all(plainly.truth(talk, world, saying) for saying in sayings))
                    self.assertEqual(case_at(talk, sayings, world, most=100), holding.index(True) if any(holding) else None)


class StaysAsItWas(unittest.TestCase):
    def test_what_is_handed_in_and_the_answers(self):
        sayings = (("either", ATMOST, ("not", EQUAL)), PARTS, SAME)
        given = copy.deepcopy(sayings)
        world = ((1, 2, 3, 4), (5,))
        answers = [(cases_of(TALK, given), cases_many(given), cases_many(given, turned=True), case_at(TALK, given, world))
                   for _ in range(2)]
        self.assertEqual(answers[0], answers[1])
        self.assertEqual(given, sayings)


if __name__ == "__main__":
    unittest.main()
