import copy
import unittest

from countfold.between import between, saying_between, shows_apart
from countfold.cases import cases_many, cases_of
from countfold.errors import NoPapers, NoSaying, TooMany
from countfold.pairs import is_of_ones, is_of_others, is_parted, pair_system
from countfold.parts import part_of, shared
from countfold.prover import asked
from countfold.sayings import names_in
from countfold.systems import system_of, width_of
from countfold.talks import Talk
from countfold.texts import saying_text
from countfold.trims import is_trim
from countfold.truth import is_true
from tests import adding, plainly
from tests.makers import NAMES, NUMBERS, Maker
from tests.test_prover import A_IN_B, NO_A, many_cases, said, worlds_of
from tests.things import THIRTY, nested, no_texts, no_wholes, refused

TALK = Talk(("a", "b", "c"), ("n",), most=5)
SMALL = [Talk(("a", "b"), ("n",), most=3), Talk(NAMES, most=2), Talk(("a",), NUMBERS, most=3), Talk(("a",), ("n",), most=5), Talk(("a", "b"), most=4)]


def some_part(maker, talk):
    return Talk(tuple(name for name in talk.sets() if maker.whole(0, 9) < 7), tuple(name for name in talk.numbers() if maker.whole(0, 9) < 7),
                most=talk.most())


def some_sayings(maker, talk):
    """Sayings in some of the talk's names, of parts alone or of all kinds."""
    part = some_part(maker, talk)
    if maker.whole(0, 1):
        return maker.sayings(part, maker.whole(0, 3), 3)
    made = [("parts", maker.whole(2, 4), maker.sum(part, 4)) for _ in range(maker.whole(1, 2))]
    return tuple(maker.among(saying, ("not", saying)) for saying in made) + maker.sayings(part, maker.whole(0, 1), 1)


def pairs_of(talk, ones, others, papers):
    """For each two cases: the parts and the cases, and the paper."""
    one, other = part_of(talk, ones), part_of(talk, others)
    return [((one, case, other, other_case), paper) for case, row in zip(cases_of(one, ones), papers)
            for other_case, paper in zip(cases_of(other, others), row)]


class Checked(unittest.TestCase):
    def check(self, talk, ones, others):
        """The word of what is told, which is gone over."""
        answer = between(talk, ones, others)
        word, found = answer
        if word == "yes":
            self.assertTrue(all(plainly.truth(talk, found, saying) for saying in ones + others))
            self.assertIs(shows_apart(talk, ones, others, found), False)
        else:
            self.assertEqual(word, "no")
            self.check_papers(talk, ones, others, found)
            self.assertIs(shows_apart(talk, ones, others, answer), False)
        return word

    def check_papers(self, talk, ones, others, papers):
        one, other = part_of(talk, ones), part_of(talk, others)
        self.assertIs(type(papers), tuple)
        self.assertEqual(len(papers), len(cases_of(one, ones)))
        for row in papers:
            self.assertIs(type(row), tuple)
            self.assertEqual(len(row), len(cases_of(other, others)))
        for found, paper in pairs_of(talk, ones, others, papers):
            width = width_of(*found[:2])
            self.assertTrue(adding.is_paper(pair_system(*found), paper, width + width_of(*found[2:])))
            for row in [step[1] for step in paper if step[0] == "split"]:
                self.assertFalse(any(row[1:1 + width]) and any(row[1 + width:]))
        self.assertIs(shows_apart(talk, ones, others, papers), True)

    def check_saying(self, talk, ones, others, papers):
        """The saying between, which is gone over."""
        saying = saying_between(talk, ones, others, papers)
        both = shared(part_of(talk, ones), part_of(talk, others))
        self.assertLessEqual(set(names_in(saying)), set(both.sets() + both.numbers()))
        self.assertTrue(all(is_true(talk, world, saying) for world in worlds_of(talk, ones)))
        self.assertFalse(any(is_true(talk, world, saying) for world in worlds_of(talk, others)))
        self.assertEqual(saying_between(talk, ones, others, papers), saying)
        return saying


class Between(Checked):
    def test_told(self):
        for ones, others, word in [(["[a in b]"], ["[b in c]", "[3 <= 1 #b]"], "yes"), (["[3 <= 1 #a]", "[a in b]"], ["[b in c]", "[1 #c <= 2]"], "no"),
                                   ([], [], "yes"), (["[6 <= 1 n]"], [], "no"), ([], ["[. = 1]"], "no"), (["[2 | 1 n]"], ["[2 | 1 n + 1]"], "no"),
                                   (["[2 | 1 n]"], ["~[2 | 1 n + 2 #a]"], "no"), (["[1 #a = 2 #(b & c)]"], ["~[2 | 1 #a]"], "no"),
                                   (["[1 #a = 3]"], ["[1 #(b - c) = 3]", "[1 #!b = 3]"], "no"), (["[1 #a = 3]"], ["[1 #(b - c) = 3]", "[1 #!b = 2]"], "yes"),
                                   (["([1 n <= 1] or [3 <= 1 n])"], ["[2 <= 1 n]", "[1 n <= 2]"], "no")]:
            self.assertEqual(self.check(TALK, said(*ones), said(*others)), word, (ones, others))
        self.assertEqual(between(others=said("[1 n = 5]"), ones=said("[6 <= 1 #a + 1 n]"), talk=TALK)[0], "yes")

    def test_one_paper_for_each_two_cases(self):
        ones, others = said("([3 <= 1 #a] or [2 | 2 n + 1])"), said("[1 #{*} <= 1]", "~[1 n = 1 n]")
        word, papers = between(TALK, ones, others)
        self.assertEqual((word, [len(row) for row in papers]), ("no", [2, 2]))
        self.assertEqual(self.check(TALK, ones, others), "no")
        word, papers = between(TALK, others, ones)
        self.assertEqual((word, [len(row) for row in papers]), ("no", [2, 2]))

    def test_against_all_worlds(self):
        maker = Maker(101)
        words, names = [], []
        for _ in range(250):
            talk = maker.among(*SMALL)
            ones, others = some_sayings(maker, talk), some_sayings(maker, talk)
            if cases_many(ones) * cases_many(others) > 32:
                continue
            words.append(self.check(talk, ones, others))
            self.assertEqual(words[-1] == "yes", bool(worlds_of(talk, ones + others)))
            if words[-1] == "no":
                names.append(names_in(self.check_saying(talk, ones, others, between(talk, ones, others)[1])))
        self.assertGreater(min(words.count("yes"), words.count("no")), 60)

    def test_sayings_that_can_each_be(self):
        maker = Maker(102)
        named = 0
        while named < 25:
            talk = maker.among(*SMALL)
            core = maker.saying(some_part(maker, talk), 2)
            ones = (core, *maker.sayings(some_part(maker, talk), 1, 2))
            others = (*maker.sayings(some_part(maker, talk), 1, 2), ("not", core))
            if cases_many(ones) * cases_many(others) > 32 or not worlds_of(talk, ones) or not worlds_of(talk, others):
                continue
            self.assertEqual(self.check(talk, ones, others), "no")
            saying = self.check_saying(talk, ones, others, between(talk, ones, others)[1])
            self.assertEqual({is_true(talk, world, saying) for world in worlds_of(talk, ones) + worlds_of(talk, others)}, {True, False})
            named += bool(names_in(saying))

    def test_what_is_told_by_asked(self):
        maker = Maker(103)
        words = []
        for _ in range(60):
            talk = Talk(NAMES[:2], NUMBERS, most=20)
            ones, others = some_sayings(maker, talk), some_sayings(maker, talk)
            if cases_many(ones) * cases_many(others) <= 32:
                words.append(self.check(talk, ones, others))
                self.assertEqual(words[-1], asked(talk, ones + others)[0])
        self.assertGreater(min(words.count("yes"), words.count("no")), 10)

    def test_splits_that_are_parted(self):
        # Ones are uneven, others even, in least rows alone: no split of both is one of either.
        talk = Talk(("a",), NUMBERS, most=20)
        ones, others = said("[1 #a <= 2 m + 1]", "[2 m + 1 <= 1 #a]"), said("[1 #a <= 2 n]", "[2 n <= 1 #a]")
        self.assertEqual(self.check(talk, ones, others), "no")
        found, paper = pairs_of(talk, ones, others, between(talk, ones, others)[1])[0]
        self.assertIn("split", [step[0] for step in paper])
        self.check_saying(Talk(("a",), NUMBERS, most=7), ones, others, between(Talk(("a",), NUMBERS, most=7), ones, others)[1])

    def test_papers_have_no_idle_split(self):
        maker = Maker(104)
        for _ in range(40):
            talk = maker.among(*SMALL)
            ones, others = some_sayings(maker, talk), some_sayings(maker, talk)
            if cases_many(ones) * cases_many(others) <= 32:
                word, papers = between(talk, ones, others)
                for found, paper in pairs_of(talk, ones, others, papers) if word == "no" else ():
                    self.assertTrue(is_trim(pair_system(*found), paper))


class Hard(Checked):
    """Pairs of twenty-four rows and sixteen unknowns, or nearly so."""

    def bounded(self, talk, ones, others):
        for found, _ in pairs_of(talk, ones, others, [[None] * 32] * 32):
            rows = pair_system(*found)
            if len(rows) > 24 or len(rows[0][1]) > 17:
                return False
        return True

    def test_parts_that_clash_in_what_both_bear(self):
        maker = Maker(105)
        words = []
        talk = Talk(("a", "b"), NUMBERS, most=20)
        terms = ["(a - b)", "(b - a)", "(a & b)", "!(a + b)"]
        for divisor in (2, 3, 4, 5, 7, 12, 97, 1000):
            for _ in range(3):
                base = [maker.whole(0, divisor) for _ in range(6)]
                texts = []
                for word in ("~", maker.among("", "~"), ""):
                    coefs = [part + divisor * maker.whole(-9, 9) for part in base]
                    total = [f"{coef} #{term}" for coef, term in zip(coefs, terms)] + [f"{coefs[4]} m", f"{coefs[5]} n", str(maker.whole(0, divisor))]
                    texts.append(f"{word}[{divisor} | {' + '.join(total)}]")
                for ones, others in [(said(texts[0]), said(texts[2])), (said(texts[0]), said(texts[1]))]:
                    if self.bounded(talk, ones, others):
                        words.append(self.check(talk, ones, others))
        self.assertGreater(min(words.count("yes"), words.count("no")), 5)

    def test_few_steps_where_neither_side_clashes_alone(self):
        # What one side says of a sum's rest, the other says otherwise: a split by each value of the whole part is enough.
        talk = Talk(("a", "b"), NUMBERS, most=20)
        for divisor, coefs, others in [(4, (21, -4, -28, 14, -23, 30, 2), (5, 0, 8, 2, 5, 2, 6)), (3, (1, 2, 1, 0, 1, 0, 0), (1, -1, 4, 0, 1, 3, 0)), (5, (1, 2, 3, 4, 0, 1, 0), (1, 2, -2, 4, 5, 1, 0)),
                                       (4, (2387, 1760, -62, -1175, -1794, 2727, 1), (3, 4, 2, 1, 2, 3, 5)), (7, (1, 2, 3, 4, 0, 1, 0), (8, 2, 3, -3, 7, 1, 0))]:
            ones, others = [said(f"{sign}[{divisor} | {self.total(numbers)}]") for sign, numbers in (("~", coefs), ("", others))]
            for pair in ((ones, others), (others, ones)):
                self.assertEqual(self.check(talk, *pair), "no")
                [[paper]] = between(talk, *pair)[1]
                self.assertLess(len(paper), 1000)

    def total(self, coefs):
        """The text of a sum of the four regions of a and b, m, n and a lot."""
        words = ["#(!a - b)", "#(a - b)", "#(!a & b)", "#(a & b)", "m", "n"]
        return " + ".join([f"{coef} {word}" for coef, word in zip(coefs, words)] + [str(coefs[-1])])

    def test_great_coefs(self):
        maker = Maker(106)
        words = []
        regions = ["((!a - b) - c)", "((a - b) - c)", "((b - a) - c)", "((a & b) - c)", "((!a - b) & c)", "((a - b) & c)", "((b - a) & c)", "((a & b) & c)"]
        for talk, terms in [(Talk(NAMES, most=20), regions), (Talk(("a", "b"), NUMBERS, most=20), ["(a - b)", "(b - a)", "(a & b)", "!(a + b)"])]:
            for figures in (1, 2, 3, 4, 6, 9, 20):
                for sign, many in [("|", 1), ("=", 1), ("=", 2)]:
                    def texts():
                        made = []
                        for _ in range(many):
                            total = [f"{maker.whole(0, 10 ** figures)} #{term}" for term in terms] + [f"{maker.whole(0, 10 ** figures)} {name}" for name in talk.numbers()]
                            left = str(maker.whole(10 ** figures, 10 ** (figures + 1)))
                            made.append(f"[{left} {sign} {' + '.join(total)}]")
                        return said(*made)
                    ones, others = texts(), texts()
                    if self.bounded(talk, ones, others):
                        words.append(self.check(talk, ones, others))
        self.assertGreater(min(words.count("yes"), words.count("no")), 2)

    def test_thirty_two_pairs(self):
        talk = Talk(NAMES, NUMBERS[:1], most=20)
        either = said("([1 #a <= 1 #b] or [1 #b <= 1 #a])", "([1 #a <= 3] or [3 <= 1 #a])")
        ones = either + said("([2 | 1 #a] or [3 | 1 #b + 1 #a])", "[1 #a = 1 #b + 1]")
        others = said("([1 #(b & c) <= 1 #c] or [1 #c <= 3])", "([1 #b <= 1 #(b & c)] or [1 #(b & c) <= 1 #b])", "[40 <= 1 #b + 1 #c + 1 #(b & c)]",
                      "[1 #!b = 1]")
        self.assertEqual(cases_many(ones) * cases_many(others), 32)
        for told in (others, others[:-1], others[:2]):
            self.assertEqual(self.check(talk, ones, told), asked(talk, ones + told)[0])


class ShowsApart(unittest.TestCase):
    ONES, OTHERS = said("([3 <= 1 #a] or [2 | 2 n + 1])"), said("[1 #{*} <= 1]", "~[1 n = 1 n]")

    def test_one_thing_otherwise(self):
        papers = between(TALK, self.ONES, self.OTHERS)[1]
        self.assertIs(shows_apart(TALK, self.ONES, self.OTHERS, papers), True)
        self.assertIs(shows_apart(thing=papers, others=self.OTHERS, ones=self.ONES, talk=TALK), True)
        (first, second), (third, fourth) = papers
        for thing in [papers[:1], papers + papers[:1], papers[::-1], list(papers), [[first, second], [third, fourth]], ((first, second), [third, fourth]),
                      ((first, second), (third,)), ((first, second), (third, fourth, fourth)), ((first, second), third), ((first, third), (second, fourth)),
                      (first, second, third, fourth), ((first, second), (third, None)), ((first, second), (third, ())), ((first, second), (third, list(fourth))),
                      ("no", papers), (papers,), (), ((), ())]:
            self.assertIs(shows_apart(TALK, self.ONES, self.OTHERS, thing), False)
        self.assertIs(shows_apart(TALK, self.OTHERS, self.ONES, papers), False)
        self.assertIs(shows_apart(TALK, self.ONES[::-1], self.OTHERS[:1], papers), False)

    def test_a_split_of_both_sides(self):
        ones, others = said("[1 n <= 0]"), said("[1 <= 1 n]")
        clash = (("clash", (0, 0, 1, 0, 0, 1, 0, 1)),)
        self.assertIs(shows_apart(TALK, ones, others, ((clash,),)), True)
        for row, told in [((0, 0, 1, 0, 0), True), ((0, 0, 0, 0, 1), True), ((-1, 0, 0, 0, 0), True), ((0, 0, 1, 0, 1), False), ((2, 1, 0, 1, 0), False)]:
            paper = (("split", row, 1, 2), *[("clash", clash[0][1] + (0,))] * 2)
            self.assertIs(shows_apart(TALK, ones, others, ((paper,),)), told)

    def test_anything(self):
        for thing in [*no_texts(), *no_wholes(), nested(16), ((nested(14), nested(14)), (nested(14), nested(14))), ((((("clash", nested(10)),),) * 2),) * 2]:
            self.assertIs(shows_apart(TALK, self.ONES, self.OTHERS, thing), False)
            self.assertIs(shows_apart(TALK, (), (), thing), False)


class SayingBetween(Checked):
    def test_of_a_clash_and_of_a_rest(self):
        talk = Talk(("a", "b"), ("n",), most=5)
        ones, others = said("[3 <= 1 #(a & b)]"), said("[1 #a <= 2]")
        saying = self.check_saying(talk, ones, others, between(talk, ones, others)[1])
        self.assertEqual(names_in(saying), ["a"])
        ones, others = said("[2 | 1 n]"), said("[2 | 1 n + 1]")
        saying = self.check_saying(talk, ones, others, between(talk, ones, others)[1])
        self.assertEqual(names_in(saying), ["n"])
        self.assertEqual({is_true(talk, ((0, 0, 0, 0), (value,)), saying) == (value % 2 == 0) for value in range(6)}, {True})

    def test_with_no_name_shared(self):
        talk = Talk(("a", "b"), NUMBERS, most=5)
        for ones, others, many in [(["[3 <= 1 #a]"], ["[1 #!b = 1]", "[1 #b = 1]"], True), (["[. = 1]"], ["[a in b]"], False), (["[1 m <= 3]"], ["[6 <= 1 n]"], True),
                                   ([], ["[. = 1]"], True), (["[. = 1]"], [], False), (["[2 | 1 #{*}]"], ["[2 | 1 #a + 1 #!a + 1]"], True)]:
            ones, others = said(*ones), said(*others)
            saying = self.check_saying(talk, ones, others, between(talk, ones, others)[1])
            self.assertEqual(names_in(saying), [])
            if not many:
                self.assertFalse(any(is_true(talk, world, saying) for world in plainly.all_worlds(talk)))

    def test_papers_written_otherwise(self):
        maker = Maker(107)
        many = 0
        while many < 60:
            talk = maker.among(*SMALL)
            ones, others = some_sayings(maker, talk), some_sayings(maker, talk)
            if cases_many(ones) * cases_many(others) > 6:
                continue
            word, papers = between(talk, ones, others)
            if word == "no":
                self.check_saying(talk, ones, others, self.rewritten(maker, talk, ones, others, papers))
                many += 1

    def rewritten(self, maker, talk, ones, others, papers):
        """Papers with idle splits ahead, of ones, of others, without coefs; of either side a clash of its own where it has one."""
        made = []
        for found, paper in pairs_of(talk, ones, others, papers):
            width, other_width, start = width_of(*found[:2]), width_of(*found[2:]), len(pair_system(*found))
            for _ in range(maker.whole(1, 2)):
                side = maker.among("ones", "others", "none")
                row = (maker.whole(-3, 3), *[maker.whole(-2, 2) if side == "ones" else 0 for _ in range(width)],
                       *[maker.whole(-2, 2) if side == "others" else 0 for _ in range(other_width)])
                paper = self.split_ahead(row, paper, start)
            self.assertTrue(is_parted(*found, paper))
            made.append(paper)
        many = len(papers[0])
        return tuple(tuple(made[at:at + many]) for at in range(0, len(made), many))

    def split_ahead(self, row, paper, start):
        """The split, and behind it the paper on either side."""
        def moved(by):
            return tuple(("split", step[1], step[2] + by, step[3] + by) if step[0] == "split"
                         else (step[0], step[1][:start] + (0,) + step[1][start:], *step[2:]) for step in paper)
        return (("split", row, 1, 1 + len(paper)), *moved(1), *moved(1 + len(paper)))

    def test_splits_that_are_used(self):
        # n is 3 or less and 4 or more, shown by a split of each kind.
        talk = Talk((), ("n",), most=9)
        ones, others = said("[1 n <= 3]"), said("[4 <= 1 n]")
        start = len(pair_system(*pairs_of(talk, ones, others, ((None,),))[0][0]))
        self.assertEqual(start, 8)
        # Rows: things, n, n is 3 or less; things, n, n is 4 or more; things, n.
        for row, left, right in [((-4, 0, 1, 0, 0), (0, 0, 1, 0, 0, 0, 0, 0, 1), (0, 0, 0, 0, 0, 1, 0, 1, 1)),
                                 ((-4, 0, 0, 0, 1), (0, 0, 1, 0, 0, 0, 0, -1, 1), (0, 0, 0, 0, 0, 1, 0, 0, 1)),
                                 ((3, 0, -1, 0, 0), (0, 0, 0, 0, 0, 1, 0, 1, 1), (0, 0, 1, 0, 0, 0, 0, 0, 1)),
                                 ((5, 0, 0, 0, 0), (0, 0, 1, 0, 0, 1, 0, 1, 0), (0, 0, 0, 0, 0, 0, 0, 0, 1)),
                                 ((-5, 0, 0, 0, 0), (0, 0, 0, 0, 0, 0, 0, 0, 1), (0, 0, 1, 0, 0, 1, 0, 1, 0))]:
            for sign in (1, -1):
                weights = [tuple(weight * (sign if at == 7 else 1) for at, weight in enumerate(part)) for part in (left, right)]
                papers = (((("split", row, 1, 2), ("clash", weights[0]), ("clash", weights[1])),),)
                if shows_apart(talk, ones, others, papers):
                    saying = self.check_saying(talk, ones, others, papers)
                    self.assertEqual([value for value in range(10) if is_true(talk, ((0,), (value,)), saying)], [0, 1, 2, 3])
                    break
            else:
                self.fail(row)

    def test_rows_of_most_on_either_side(self):
        # Things; a is 4 of them; things; 2 and more are not in a; not in a, a: the first or the third row says that all are 5 or less.
        talk = Talk(("a",), most=5)
        ones, others = said("[1 #a = 4]"), said("[2 <= 1 #!a]")
        for weights in [(0, 1, 1, 1, 0, -1), (1, 1, 0, 1, 1, 0), (1, 2, 1, 2, 1, -1)]:
            papers = (((("clash", weights),),),)
            self.assertTrue(shows_apart(talk, ones, others, papers))
            saying = self.check_saying(talk, ones, others, papers)
            self.assertEqual(names_in(saying), ["a"])

    def test_rests_of_any_weights(self):
        talk = Talk((), ("n",), most=9)
        ones, others = said("[3 | 1 n + 1]"), said("[3 | 2 n]")
        # Rows: things, n, n + 1 is 3 q; things, n, 2 n is 3 q; things, n.
        for weights, divisor in [((0, 0, 2, 0, 0, -1, 0, -2), 3), ((0, 0, -1, 0, 0, 2, 3, 4), 3), ((0, 0, 20, 0, 0, -10, -30, -20), 30),
                                 ((0, 0, 5, 0, 0, -1, 0, -2), 3), ((0, 0, 8, 0, 0, -1, 0, -2), 3)]:
            papers = (((("rest", weights, divisor),),),)
            self.assertTrue(shows_apart(talk, ones, others, papers), weights)
            self.check_saying(talk, ones, others, papers)

    def test_a_paper_deeper_than_calls_may_be(self):
        talk = Talk((), ("n",), most=9)
        ones, others = said("[1 n <= 3]"), said("[4 <= 1 n]")
        clash = (0, 0, 1, 0, 0, 1, 0, 1)
        steps = []
        # Splits on either side by turns, idle ones; weights end with the last path's rows.
        for number in range(20):
            row = (number, 0, 1, 0, 0) if number % 2 else (number, 0, 0, 0, 1)
            steps += [("split", row, 2 * number + 1, 2 * number + 2), ("clash", clash + (0,) * (number + 1))]
        papers = (((*steps, ("clash", clash + (0,) * 20)),),)
        self.check_saying(talk, ones, others, papers)
        many, steps = 2000, []
        for number in range(many):
            steps += [("split", (0, 0, 0, 0, 0), 2 * number + 1, 2 * number + 2), ("clash", clash + (0,) * (number + 1))]
        papers = (((*steps, ("clash", clash + (0,) * many)),),)
        saying = saying_between(talk, ones, others, papers)
        self.assertEqual([value for value in range(10) if is_true(talk, ((0,), (value,)), saying)], [0, 1, 2, 3])
        self.assertEqual(names_in(saying), ["n"])
        self.assertIsInstance(saying_text(saying), str)

    def test_no_papers(self):
        ones, others = said("[1 n <= 0]"), said("[1 <= 1 n]")
        papers = between(TALK, ones, others)[1]
        saying_between(TALK, ones, others, papers)
        for thing in [*no_texts(), *no_wholes(), nested(16), ("no", papers), list(papers), papers + papers, papers[0], (list(papers[0]),), (papers[0] * 2,), ((),)]:
            refused(self, NoPapers, saying_between, TALK, ones, others, thing)
        refused(self, NoPapers, saying_between, TALK, others, ones, papers)
        clash = (0, 0, 1, 0, 0, 1, 0, 1)
        refused(self, NoPapers, saying_between, TALK, ones, others, (((("split", (0, 0, 1, 0, 1), 1, 2), *[("clash", clash + (0,))] * 2),),))
        self.assertEqual(saying_between(papers=papers, others=others, ones=ones, talk=TALK), saying_between(TALK, ones, others, papers))

    def test_of_talks_of_any_most(self):
        ones, others = said("[3 <= 1 #(a & b)]", "[2 | 1 n]"), said("[1 #a <= 2]", "~[3 | 1 n]")
        for most in (5, 100, THIRTY):
            talk = Talk(("a", "b"), ("n",), most=most)
            saying = saying_between(talk, ones, others, between(talk, ones, others)[1])
            for count in (0, 1, 2):
                self.assertIs(is_true(talk, ((0, count, 0, 0), (1,)), saying), False)
            for count in (3, 4, 5, most):
                self.assertIs(is_true(talk, ((0, 0, 0, count), (most // 2 * 2,)), saying), True)


class Refused(unittest.TestCase):
    def calls(self):
        return [between, lambda talk, ones, others: shows_apart(talk, ones, others, ()), lambda talk, ones, others: saying_between(talk, ones, others, "none")]

    def test_the_first_that_is_no_saying(self):
        for thing in [*no_texts(), ("within", "a", "d"), ("within", "a"), ("some", "d", A_IN_B), ("parts", 1, ()), plainly.deep_saying(7),
                      plainly.broad_saying(25), ["within", "a", "b"], "[a in b]", nested(16)]:
            for call in self.calls():
                for ones, others in [((thing,), ()), ((), (thing,)), ((A_IN_B, thing), (["another"],)), ((many_cases(6),), (NO_A, thing, "another")),
                                     ((thing, "another"), (many_cases(6),)), ((A_IN_B,), (A_IN_B, thing))]:
                    self.assertIs(refused(self, NoSaying, call, TALK, ones, others).saying, thing)

    def test_too_many(self):
        for call in self.calls():
            for ones, others, many in [((many_cases(6),), (), 64), ((), (many_cases(6),), 64), ((many_cases(3),), (many_cases(3),), 64),
                                       ((many_cases(3), many_cases(1)), (NO_A, many_cases(2)), 64), ((many_cases(8),), (many_cases(8),), 2 ** 16)]:
                self.assertEqual(refused(self, TooMany, call, TALK, ones, others).many, many)
        for ones, others in [((many_cases(5),), ()), ((many_cases(2),), (many_cases(3),)), ((), (many_cases(5),))]:
            between(TALK, ones, others)
            self.assertIs(shows_apart(TALK, ones, others, ()), False)
            refused(self, NoPapers, saying_between, TALK, ones, others, ())


class StaysAsItWas(unittest.TestCase):
    def test_what_is_handed_in_and_the_answers(self):
        ones, others = said("[3 <= 1 #a]", "[a in b]"), said("[b in c]", "[1 #c <= 2]")
        given = copy.deepcopy((ones, others))
        told = [between(TALK, ones, others) for _ in range(2)]
        self.assertEqual(told[0], told[1])
        papers = told[0][1]
        self.assertEqual(saying_between(TALK, ones, others, papers), saying_between(TALK, ones, others, papers))
        self.assertEqual(((ones, others), papers), (given, told[1][1]))


if __name__ == "__main__":
    unittest.main()
