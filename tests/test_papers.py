import copy
import unittest

from countfold.papers import paths_of, shows_no
from tests import adding
from tests.things import THIRTY, nested, no_texts, no_wholes

# x is 1 or more and 0 or less.
CLASHING = (("least", (-1, 1)), ("least", (0, -1)))
CLASH = (("clash", (1, 1)),)
# 2 x is y and y again, and 1 more.
UNEVEN = (("least", (9, -1, 0)), ("nought", (0, -2, 1)), ("nought", (-5, 0, 2)), ("nought", (0, 0, 0)))
REST = (("rest", (0, 0, 1, 0), 2),)
# 4 x is 1 to 3: of whole values, x is 0 or less or 1 or more.
BROKEN = (("least", (-1, 4)), ("least", (3, -4)))
SPLIT = (("split", (0, -1), 1, 2), ("clash", (1, 0, 4)), ("clash", (0, 1, 4)))


def step(paper, number, made):
    """The paper with another step in its place."""
    return paper[:number] + (made,) + paper[number + 1:]


def long_paper(many):
    """A paper of 2 x is just 1: split by x at least many, at least one less, and so on, to at least 1."""
    steps = []
    for number in range(many):
        steps.append(("split", (number - many, 1), 2 * number + 1, 2 * number + 2))
        steps.append(("clash", (0, 1, *[0] * number, 2)))
    return (*steps, ("clash", (1, 0, *[0] * (many - 1), 2)))


class ShowsNo(unittest.TestCase):
    def yes(self, system, paper, width):
        self.assertIs(shows_no(system, paper, width=width), True, paper)
        self.assertTrue(adding.is_paper(system, paper, width))

    def no(self, system, things, width):
        for thing in things:
            self.assertIs(shows_no(system, thing, width=width), False, thing)

    def test_a_clash(self):
        self.yes(CLASHING, CLASH, 1)
        self.yes(CLASHING, (("clash", (THIRTY, THIRTY)),), 1)
        self.yes((("nought", (5,)),), (("clash", (-1,)),), 0)
        self.assertIs(shows_no(tuple((kind, list(row)) for kind, row in CLASHING), CLASH, width=1), True)
        self.assertIs(shows_no(width=1, thing=CLASH, system=CLASHING), True)

    def test_no_clash(self):
        self.no(CLASHING, [(("clash", weights),) for weights in [
            (1,), (1, 1, 0), (1, 1, 1), (), (1, 0), (0, 1), (0, 0), (2, 1), (1, -1), (-1, -1), [1, 1], (True, True),
            (1, True), ("1", "1"), (1, None), ((1, 1),), "11", {0: 1, 1: 1}, None, 1]], 1)
        self.no(CLASHING, [(("clash", (1, 1), 2),), (("clash",),), (("clash", 1, 1),), (["clash", (1, 1)],),
                           [("clash", (1, 1))], ("clash", (1, 1)), ((("clash", (1, 1)),),), (("Clash", (1, 1)),)], 1)

    def test_a_rest(self):
        self.yes(UNEVEN, REST, 2)
        self.yes(UNEVEN, (("rest", (0, 4, 3, 7), 2),), 2)
        self.yes(UNEVEN, (("rest", (0, 0, 1, THIRTY), 2),), 2)

    def test_no_rest(self):
        self.no(UNEVEN, [(("rest", weights, 2),) for weights in [
            (0, 0, 1), (0, 0, 1, 0, 0), (2, 0, 1, 0), (-2, 0, 1, 0), (0, 1, 1, 0), (0, 0, 2, 0), (0, 0, 0, 0), (0, 0, 0, 1),
            [0, 0, 1, 0], (False, 0, 1, 0), (0, 0, True, 0), (0, 0, "1", 0), (0, 0, None, 0), None, 1]], 2)
        self.no(UNEVEN, [(("rest", (0, 0, 1, 0), d),) for d in [1, 0, -2, 3, 4, 5, True, "2", None, (2,), [2]]], 2)
        self.no(UNEVEN, [(("rest", (0, 0, 1, 0)),), (("rest", (0, 0, 1, 0), 2, 2),), (("rest", 2, (0, 0, 1, 0)),),
                         (("clash", (0, 0, 1, 0)),), (["rest", (0, 0, 1, 0), 2],), ("rest", (0, 0, 1, 0), 2)], 2)
        # Its weights are of nought rows alone, also where the rows added have no coef of it.
        self.no((("least", (0, 0)), ("nought", (1, 2))), [(("rest", (2, 1), 2),), (("rest", (1, 1), 2),)], 1)
        self.yes((("least", (0, 0)), ("nought", (1, 2))), (("rest", (0, 1), 2),), 1)
        # 4 divides each coef, and 8 the constant.
        self.no((("nought", (8, 4)),), [(("rest", (1,), d),) for d in (2, 4, 8)], 1)

    def test_a_split(self):
        self.yes(BROKEN, SPLIT, 1)
        self.yes(BROKEN, (("split", (0, -1), 2, 1), SPLIT[2], SPLIT[1]), 1)
        self.yes(BROKEN, (("split", (-1, 1), 1, 2), SPLIT[2], SPLIT[1]), 1)
        self.yes(CLASHING, (("split", (5, 7), 1, 2), ("clash", (1, 1, 0)), ("clash", (1, 1, 0))), 1)
        self.yes((("nought", (1, 2)),), (("split", (0, 0), 1, 2), ("rest", (1, 0), 2), ("clash", (0, 1))), 1)

    def test_no_split(self):
        clash, other = SPLIT[1:]
        self.no(BROKEN, [(("split", row, 1, 2), clash, other) for row in [
            (0, -1, 0), (0,), (), (0, 1), (1, -1), (-1, -1), [0, -1], (False, -1), ("0", -1), (0, None), None, 0, ((0, -1),),
            {0: 0, 1: -1}]], 1)
        self.no(BROKEN, [(("split", (0, -1), left, right), clash, other) for left, right in [
            (0, 1), (0, 2), (1, 1), (2, 2), (1, 0), (2, 0), (0, 0), (-1, 2), (-2, -1), (1, -1), (1, 3), (3, 1), (1, True),
            (True, 2), (1, "2"), (1, None), (1, (2,)), ([1], 2), (THIRTY, 2), (2, 1)]], 1)
        self.no(BROKEN, [(("split", (0, -1), 1), clash, other), (("split", (0, -1), 1, 2, 3), clash, other),
                         (("split", (0, -1)), clash, other), (("split",), clash, other), (("split", 1, 2, (0, -1)), clash, other),
                         (["split", (0, -1), 1, 2], clash, other), [*SPLIT], (SPLIT[0],), SPLIT[:2], SPLIT[1:], SPLIT[1:2],
                         SPLIT + (clash,), SPLIT + SPLIT[:1], SPLIT[::-1], (clash, *SPLIT), (SPLIT,), SPLIT + (None,)], 1)
        self.no(BROKEN, [step(SPLIT, 1, ("clash", weights)) for weights in
                         [(1, 0), (1, 0, 4, 0), (1, 0, 3), (1, 0, -5), (1, 0, True), (0, 1, 4), [1, 0, 4], (-1, 0, 4)]], 1)
        # A split's row is a least one: no rest has a weight of it.
        uneven = (("nought", (1, 2)),)
        self.no(uneven, [(("split", (0, 2), 1, 2), ("rest", (1, weight), 2), ("clash", (0, 1))) for weight in (1, 2, -2)], 1)

    def test_splits_behind_one_another(self):
        # 3 x is 4 to 5: x is below 1, or 1, or 2 or more.
        system = (("least", (-4, 3)), ("least", (5, -3)), ("nought", (0, 0)))
        paper = (("split", (-2, 1), 4, 1), ("split", (0, -1), 2, 3), ("clash", (1, 0, 0, 0, 3)),
                 ("split", (-1, 1), 6, 5), ("clash", (0, 1, 0, 3)), ("clash", (1, 0, 0, 0, 0, 3)), ("clash", (1, 0, 0, 3, 0, 0)))
        self.yes(system, paper, 1)
        for number in range(1, 7):
            for other in range(7):
                if other != number:
                    moved = tuple(tuple(other if at > 1 and part == number else part for at, part in enumerate(step))
                                  if step[0] == "split" else step for step in paper)
                    self.assertIs(shows_no(system, moved, width=1), False)

    def test_many_steps(self):
        system = (("least", (-1, 2)), ("least", (1, -2)))
        for many in (1, 2, 50, 300):
            paper = long_paper(many)
            self.assertEqual(len(paper), 2 * many + 1)
            self.yes(system, paper, 1)
            self.no(system, [paper[:-1], step(paper, 2 * many, ("clash", (0,) * (many + 2))),
                             step(paper, 2 * many, ("clash", (1, 0, *[0] * many, 2))),
                             step(paper, 2 * many - 1, ("clash", (0, 1, *[0] * many)))], 1)

    def test_of_anything(self):
        for thing in [*no_texts(), *no_wholes(), nested(16), (nested(15),), (("clash", nested(14)),), ((),), ((), ()),
                      (("clash", (1, 1)), None), ((None, (1, 1)),), ((1, 2, 3, 4),), (("split", nested(13), 1, 2),),
                      (("split", (0, 1), nested(13), 2), ("clash", (1, 1, 0)), ("clash", (1, 1, 0)))]:
            for system, width in [(CLASHING, 1), (UNEVEN, 2), ((), 0), ((), 3)]:
                self.assertIs(shows_no(system, thing, width=width), False, thing)


class PathsOf(unittest.TestCase):
    def test_told(self):
        self.assertEqual(paths_of(CLASHING, CLASH), [CLASHING])
        self.assertEqual(paths_of(BROKEN, SPLIT), [BROKEN, BROKEN + (("least", (0, -1)),), BROKEN + (("least", (-1, 1)),)])
        self.assertEqual(paths_of(paper=REST, system=UNEVEN), [UNEVEN])
        paper = (("split", (4, -2), 3, 1), ("split", (0, 5), 2, 4), ("clash", ()), ("clash", ()), ("clash", ()))
        left, right = (("least", (4, -2)),), (("least", (-5, 2)),)
        self.assertEqual(paths_of(BROKEN, paper),
                         [BROKEN, BROKEN + right, BROKEN + right + (("least", (0, 5)),), BROKEN + left,
                          BROKEN + right + (("least", (-1, -5)),)])

    def test_systems_of_tuples(self):
        told = paths_of(tuple((kind, list(row)) for kind, row in BROKEN), SPLIT)
        self.assertEqual(told, paths_of(BROKEN, SPLIT))
        self.assertEqual({type(path) for path in told}, {tuple})

    def test_a_new_list_each_time(self):
        first = paths_of(BROKEN, SPLIT)
        self.assertIs(type(first), list)
        first.pop()
        self.assertEqual(len(paths_of(BROKEN, SPLIT)), 3)


class StaysAsItWas(unittest.TestCase):
    def test_what_is_handed_in_and_the_answers(self):
        system = tuple((kind, list(row)) for kind, row in BROKEN)
        given, paper = copy.deepcopy(system), copy.deepcopy(SPLIT)
        self.assertEqual(shows_no(given, paper, width=1), shows_no(given, paper, width=1))
        self.assertEqual(paths_of(given, paper), paths_of(given, paper))
        self.assertEqual((given, paper), (system, SPLIT))


if __name__ == "__main__":
    unittest.main()
