"""What is promised over the whole program: one answer by all roads; things handed in by place or by name."""

import copy
import inspect
import importlib
import unittest

from countfold.between import between, saying_between
from countfold.broad import is_broad, is_true_broad
from countfold.cases import cases_many, cases_of
from countfold.desk import Desk
from countfold.errors import FoldError, LackError, NoWorld
from countfold.few import few_world
from countfold.parts import led, part_of, shared
from countfold.plays import false_at
from countfold.prover import asked, follows, shows_follows, shows_none
from countfold.ranges import ranged, shows_range
from countfold.reading import read_book, read_saying, read_sum
from countfold.sayings import is_saying, names_in
from countfold.store import Store
from countfold.sums import row_of, sum_for
from countfold.systems import system_of, width_of
from countfold.talks import Talk
from countfold.texts import book_text, saying_text, sum_text, world_text
from countfold.truth import is_true
from countfold.worlds import is_world, number_of, world_at, worlds_many
from tests import plainly
from tests.makers import NAMES, NUMBERS, Maker
from tests.test_interface import INTERFACE
from tests.test_prover import SMALL, said
from tests.things import THIRTY

TALK = Talk(("a", "b"), ("n",), most=5)
WORLD = ((1, 2, 0, 1), (3,))
A_IN_B, FEW_B = read_saying("[a in b]"), read_saying("[1 #b <= 2]")
ROWS = ((0, 1, 1, 0, 1, 7),)
SYSTEM = (("least", (-1, 4)), ("least", (3, -4)))
PAPER = (("split", (0, -1), 1, 2), ("clash", (1, 0, 4)), ("clash", (0, 1, 4)))
SOME = read_saying("some c [c in b]")
[CASE] = cases_of(TALK, (A_IN_B,))
ONE, OTHER = Talk(("a", "b"), most=5), Talk(("b",), most=5)
OTHER_CASE = cases_of(OTHER, (FEW_B,))[0]
THREE = read_saying("[3 <= 1 #a]")

# Each function of the interface, with what may be handed in.
CALLS = {
    "names": [("is_whole", 3), ("is_name", "a")],
    "talks": [("Talk",), ("Talk", ("a",)), ("Talk", ("a",), ("n",))],
    "terms": [("is_term", TALK, "a"), ("regions_of", TALK, "a"), ("term_for", TALK, [2, 1]), ("are_alike", TALK, "a", ("not", ("not", "a")))],
    "rows": [("row_worth", (1, 2), (3,)), ("divisor_of", (1, 4, 6))],
    "sums": [("is_sum", TALK, ()), ("row_of", TALK, (("size", 1, "a"),)), ("sum_for", TALK, (3, 0, 4, 0, 4, -2)), ("worth_of", TALK, WORLD, (("size", 1, "a"),))],
    "worlds": [("is_world", TALK, WORLD), ("worlds_many", TALK), ("world_at", TALK, 7), ("number_of", TALK, WORLD), ("members_of", TALK, WORLD)],
    "sayings": [("is_saying", TALK, A_IN_B), ("names_in", A_IN_B)],
    "truth": [("is_true", TALK, WORLD, A_IN_B)],
    "texts": [("term_text", "a"), ("sum_text", ()), ("saying_text", A_IN_B), ("world_text", WORLD), ("book_text", TALK, (A_IN_B,))],
    "reading": [("read_term", "!a"), ("read_sum", "."), ("read_saying", "[a in b]"), ("read_talk", "a;;5"), ("read_world", "1,2;"), ("read_book", "a;;5")],
    "cases": [("cases_many", (A_IN_B,)), ("cases_of", TALK, (A_IN_B,)), ("holds_in", TALK, WORLD, CASE[0]), ("case_at", TALK, (A_IN_B,), WORLD)],
    "systems": [("least_worth", TALK, ROWS[0]), ("greatest_worth", TALK, ROWS[0]), ("width_of", TALK, CASE), ("system_of", TALK, CASE), ("values_of", TALK, ((1, 0, 2, 1), (3,)), CASE)],
    "wholes": [("spread", ("base", (1, 2), ((1, 0),), ((1, 0),)), [3]), ("times_of", ("base", (1, 2), ((1, 0),), ((1, 0),)), (4, 2))],
    "papers": [("paths_of", SYSTEM, PAPER)],
    "fits": [("fits", SYSTEM, (1,))],
    "trims": [("rows_used", SYSTEM, PAPER), ("is_trim", SYSTEM, PAPER)],
    "prover": [("asked", TALK, (A_IN_B,)), ("shows_none", TALK, (A_IN_B,), ())],
    "exchanges": [("column", ROWS, (0, 1)), ("can_exchange", TALK, ROWS, WORLD, ((0,), (1,), 1)), ("exchanged", TALK, ROWS, WORLD, [((0,), (1,), 1)])],
    "few": [("is_few", TALK, ROWS, WORLD), ("few_of", TALK, ROWS, WORLD), ("rows_at", TALK, (FEW_B,), ((1, 2, 0, 1), (3,))), ("few_world", TALK, (FEW_B,), WORLD)],
    "parts": [("part_of", TALK, (A_IN_B,)), ("shared", ONE, OTHER), ("led", TALK, WORLD, ONE), ("joined", TALK, ONE, ((1, 2, 0, 1), ()), OTHER, ((3, 1), ()))],
    "pairs": [("pair_system", ONE, CASE, OTHER, OTHER_CASE), ("is_parted", ONE, CASE, OTHER, OTHER_CASE, ())],
    "between": [("between", TALK, (A_IN_B, THREE), (FEW_B,)), ("shows_apart", TALK, (A_IN_B,), (FEW_B,), ()),
                ("saying_between", TALK, (A_IN_B, THREE), (FEW_B,), between(TALK, (A_IN_B, THREE), (FEW_B,))[1])],
    "broad": [("is_broad", TALK, SOME), ("shares", TALK, WORLD, "c"), ("is_true_broad", TALK, WORLD, SOME)],
    "plays": [("play_of", TALK, WORLD, SOME), ("shows_play", TALK, WORLD, A_IN_B, False, ("leaf",)), ("false_at", TALK, A_IN_B)],
    "brinks": [("is_simple", TALK, SOME), ("brink", SOME), ("are_alike_by", (1, 2), (1, 3), 2), ("answer", (1, 4), (1, 5), (0, 2), 2), ("cut_counts", (1, 4), 2), ("true_of", TALK, WORLD[0], A_IN_B),
               ("always", TALK, A_IN_B)],
    "store": [("Store", TALK)],
    "desk": [],
    "ranges": [],
}
# Those with things handed in by name alone: (name, by place, by name alone).
NAMED = {
    "names": [("is_whole", (3,), {"least": 1, "most": 5})],
    "talks": [("Talk", (("a",), ("n",)), {"most": 7})],
    "rows": [("added", (ROWS, [2]), {"width": 5})],
    "worlds": [("counted", (TALK, {"a": [0], "b": []}), {"many": 3, "values": (2,)}), ("counted", (Talk(("a",)), {"a": [0]}), {"many": 3})],
    "truth": [("is_true_of", (TALK, {"a": [0], "b": []}, A_IN_B), {"many": 3, "values": (2,)}), ("is_true_of", (Talk(("a",)), {"a": [0]}, ("within", "a", "a")), {"many": 3})],
    "reading": [("read_term", ("!a",), {"deep": 1}), ("read_sum", (".",), {"deep": 0}), ("read_saying", ("[a in b]",), {"deep": 1}), ("read_book", ("a;;5",), {"deep": 1})],
    "cases": [("cases_many", ((A_IN_B,),), {"turned": True}), ("cases_of", (TALK, (A_IN_B,)), {"most": 1}), ("case_at", (TALK, (A_IN_B,), WORLD), {"most": 1})],
    "wholes": [("settled", ([(-6, 2, 3)],), {"width": 2}), ("shows_rest", ([(-5, 2, 4)], ("rest", (1,), 2)), {"width": 2})],
    "fractions": [("fitted", (SYSTEM,), {"width": 1}), ("is_point", (SYSTEM, ((1,), 2)), {"width": 1}), ("is_clash", (SYSTEM, (1, 1)), {"width": 1})],
    "papers": [("shows_no", (SYSTEM, PAPER), {"width": 1})],
    "fits": [("whole_fit", (SYSTEM,), {"width": 1})],
    "trims": [("trimmed", (SYSTEM, PAPER), {"width": 1})],
    "prover": [("follows", (TALK, (A_IN_B,)), {"saying": FEW_B}), ("shows_follows", (TALK, (A_IN_B,), ()), {"saying": FEW_B})],
    "ranges": [("ranged", (TALK,), {"total": (("num", 1, "n"),)}), ("ranged", (TALK, (A_IN_B,)), {"total": (("num", 1, "n"),)}), ("shows_range", (TALK, (A_IN_B,), ()), {"total": (("num", 1, "n"),)})],
    "plays": [("false_at", (TALK, A_IN_B), {"things": 2})],
}


class ByName(unittest.TestCase):
    def functions(self):
        for module in INTERFACE:
            found = importlib.import_module("countfold." + module)
            for name, places, named in [(call[0], call[1:], {}) for call in CALLS.get(module, [])] + NAMED.get(module, []):
                yield getattr(found, name), places, named

    def test_by_place_or_by_name(self):
        for function, places, named in self.functions():
            given = copy.deepcopy((places, named))
            answer = function(*places, **named)
            words = list(inspect.signature(function).parameters)
            by_name = {**dict(zip(words, places)), **named}
            for items in (list(by_name.items()), list(by_name.items())[::-1]):
                again = function(**dict(items))
                self.assertEqual(again, answer, function)
            for many in range(len(places)):
                self.assertEqual(function(*places[:many], **dict(list(by_name.items())[many:])), answer)
            self.assertEqual((places, named), given, function)

    def test_behind_a_star_by_name_alone(self):
        for function, places, named in self.functions():
            parameters = inspect.signature(function).parameters.values()
            plain = [part for part in parameters if part.kind == part.POSITIONAL_OR_KEYWORD]
            self.assertGreaterEqual(len(plain), len(places))
            if named and len(plain) == len(places):
                with self.assertRaises(TypeError):
                    function(*places, *named.values())

    def test_each_function_of_the_interface_is_called(self):
        called = {(module, call[0]) for table in (CALLS, NAMED) for module, calls in table.items() for call in calls}
        for module, listed in INTERFACE.items():
            if module != "errors":
                for entry in listed:
                    if "(" in entry and entry != "Desk()":
                        self.assertIn((module, entry.split("(")[0]), called)

    def test_methods(self):
        talk = Talk(("a", "b"), ("n",))
        self.assertEqual((talk.lies(name="b", region=2), talk.place(name="n"), talk.wider(name="c"), talk.halves(name="c", region=1)), (True, 4, Talk(NAMES, ("n",)), (1, 5)))
        store = Store(talk=TALK)
        self.assertEqual((store.say(saying=A_IN_B), store.say_all(sayings=[THREE]), store.mark(), store.drop(number=0), store.back()), (0, (1,), 1, None, None))
        self.assertEqual((store.follows(saying=FEW_B)[0], store.ranged(total=read_sum("1 #b"))[0], store.asked()[0], store.clash()), ("no", 3, "yes", None))
        desk = Desk()
        self.assertEqual((desk.say(line="talk a;;5"), desk.say(line="can")), ("ok", "yes"))


class Roads(unittest.TestCase):
    """What is told by one road is told by the others."""

    def cases(self, seed, many):
        maker = Maker(seed)
        while many:
            talk = maker.among(*SMALL, Talk(NAMES, NUMBERS[:1], most=20), Talk(NAMES[:2], NUMBERS, most=18))
            sayings, saying, total = maker.sayings(talk, maker.whole(0, 3), 3), maker.saying(talk, 3), maker.sum(talk)
            if cases_many((*sayings, ("not", saying))) <= 32 and cases_many(sayings) * cases_many((("not", saying),)) <= 32 and is_saying(talk, ("not", saying)):
                many -= 1
                yield talk, sayings, saying, total

    def desk(self, talk, sayings):
        desk = Desk()
        desk.say("talk " + str(talk))
        for saying in sayings:
            desk.say("say " + saying_text(saying))
        return desk

    def test_what_follows(self):
        told = []
        for talk, sayings, saying, _ in self.cases(140, 120):
            word, found = follows(talk, sayings, saying=saying)
            told.append(word)
            store = Store(talk)
            store.say_all(sayings)
            self.assertEqual(store.follows(saying=saying)[0], word)
            self.assertEqual(self.desk(talk, sayings).say("follows " + saying_text(saying)), word)
            turned = ("not", saying)
            self.assertEqual(asked(talk, (*sayings, turned))[0] == "no", word == "yes")
            apart = between(talk, sayings, (turned,))
            self.assertEqual(apart[0] == "no", word == "yes")
            store.say(turned)
            self.assertEqual(store.asked()[0] == "no", word == "yes")
            self.assertEqual(store.clash() is not None, word == "yes")
            if word == "yes":
                self.assertTrue(shows_follows(talk, sayings, found, saying=saying))
                self.assertTrue(shows_none(talk, (*sayings, turned), found))
                middle = saying_between(talk, sayings, (turned,), apart[1])
                both = shared(part_of(talk, sayings), part_of(talk, (saying,)))
                self.assertLessEqual(set(names_in(middle)), set(both.sets() + both.numbers()))
                if is_saying(talk, middle) and cases_many((*sayings, ("not", middle))) <= 32 and cases_many((middle, turned)) <= 32:
                    self.assertEqual(follows(talk, sayings, saying=middle)[0], "yes")
                    self.assertEqual(follows(talk, (middle,), saying=saying)[0], "yes")
        self.assertGreater(min(told.count("yes"), told.count("no")), 25)

    def test_ranges(self):
        many = 0
        for talk, sayings, _, total in self.cases(141, 80):
            desk, store = self.desk(talk, sayings), Store(talk)
            store.say_all(sayings)
            if asked(talk, sayings)[0] == "no":
                for call in (lambda: ranged(talk, sayings, total=total), lambda: store.ranged(total=total), lambda: desk.say("least " + sum_text(total)), lambda: desk.say("greatest " + sum_text(total))):
                    self.assertRaises(NoWorld, call)
                continue
            many += 1
            told = ranged(talk, sayings, total=total)
            self.assertEqual(store.ranged(total=total), told)
            self.assertTrue(shows_range(talk, sayings, told, total=total))
            least, _, low, greatest, _, high = told
            self.assertEqual((desk.say("least " + sum_text(total)), desk.say("greatest " + sum_text(total))), (str(least), str(greatest)))
            for saying, word in [(("atmost", (("lot", least),), total), "yes"), (("atmost", (("lot", least + 1),), total), "no"), (("atmost", total, (("lot", greatest),)), "yes"),
                                 (("atmost", total, (("lot", greatest - 1),)), "no")]:
                self.assertEqual(follows(talk, sayings, saying=saying)[0], word)
            self.assertTrue(shows_none(talk, (*sayings, ("atmost", total, (("lot", least - 1),))), low))
            self.assertTrue(shows_none(talk, (*sayings, ("atmost", (("lot", greatest + 1),), total)), high))
        self.assertGreater(many, 30)

    def test_what_can_be(self):
        for talk, sayings, _, _ in self.cases(142, 100):
            word, found = asked(talk, sayings)
            desk, store = self.desk(talk, sayings), Store(talk)
            store.say_all(sayings)
            self.assertEqual((desk.say("can"), store.asked()[0]), (word, word))
            self.assertEqual(desk.say("clash"), " ".join(str(number) for number in store.clash()[0]) if word == "no" else "none")
            self.assertEqual(read_book(desk.say("book")), (talk, sayings))
            self.assertEqual(desk.say("book"), book_text(talk, sayings))
            if word == "yes":
                self.assertTrue(is_world(talk, found) and all(is_true(talk, found, saying) for saying in sayings))
                self.assertEqual(world_at(talk, number_of(talk, found)), found)
                self.assertIsInstance(world_text(found), str)
                _, few = few_world(talk, sayings, found)
                self.assertTrue(all(is_true(talk, few, saying) for saying in sayings))
                part = part_of(talk, sayings)
                self.assertTrue(all(is_true(part, led(talk, found, part), saying) for saying in sayings))
                self.assertEqual(between(talk, sayings, sayings)[0] if cases_many(sayings) ** 2 <= 32 else "yes", "yes")

    def test_all_plain_sayings_are_broad(self):
        for talk, sayings, saying, _ in self.cases(143, 60):
            for one in (*sayings, saying):
                self.assertIs(is_broad(talk, one), True)
                small = Talk(talk.sets(), talk.numbers(), most=2)
                for number in range(0, worlds_many(small), 13):
                    world = world_at(small, number)
                    self.assertIs(is_true_broad(small, world, one), is_true(small, world, one))
                found = false_at(small, one, things=2)
                self.assertEqual(found is None, follows(small, (), saying=one)[0] == "yes" if cases_many((("not", one),)) <= 32 else found is None)

    def test_of_all_worlds(self):
        for talk, sayings, saying, total in self.cases(144, 60):
            if talk.most() < 9:
                worlds = [world for world in plainly.all_worlds(talk) if all(plainly.truth(talk, world, one) for one in sayings)]
                self.assertEqual(asked(talk, sayings)[0] == "yes", bool(worlds))
                self.assertEqual(follows(talk, sayings, saying=saying)[0] == "yes", all(plainly.truth(talk, world, saying) for world in worlds))
                if worlds:
                    worths = [plainly.worth(talk, world, total) for world in worlds]
                    self.assertEqual(ranged(talk, sayings, total=total)[::3], (min(worths), max(worths)))


class HandedOn(unittest.TestCase):
    """What is told may be handed on, however large its numbers."""

    def test_papers_of_great_numbers(self):
        talk = Talk(("a", "b"), ("n",), most=20)
        sayings = said(f"[{THIRTY - 1} | {THIRTY - 7} #a + {THIRTY // 3} n + 5]", f"[{THIRTY // 7} #a = {THIRTY // 11} #b + 1]", f"[{THIRTY} <= {THIRTY} n]")
        word, papers = asked(talk, sayings)
        self.assertEqual(word, "no")
        self.assertTrue(shows_none(talk, sayings, papers))
        apart = between(talk, sayings[:2], sayings[2:])
        self.assertEqual(apart[0], "no")
        middle = saying_between(talk, sayings[:2], sayings[2:], apart[1])
        self.assertIsInstance(saying_text(middle), str)
        self.assertFalse(is_true(talk, ((0, 0, 0, 0), (20,)), ("both", middle, ("not", middle))))
        told = ranged(talk, sayings[2:], total=((("num", THIRTY, "n"),) * 12))
        self.assertEqual((told[0], told[3]), (12 * THIRTY, 240 * THIRTY))
        self.assertTrue(shows_range(talk, sayings[2:], told, total=((("num", THIRTY, "n"),) * 12)))

    def test_sums_of_rows_of_great_numbers(self):
        talk = Talk(("a", "b"), ("n",), most=10 ** 29)
        row = (10 ** 60, -10 ** 61, 3, 10 ** 45, 0, 10 ** 50)
        self.assertEqual(row_of(talk, sum_for(talk, row)), row)
        saying = ("atmost", sum_for(talk, row), ())
        self.assertIn(is_true(talk, ((1, 2, 3, 4), (5,)), saying), (True, False))
        self.assertEqual(len(system_of(talk, cases_of(talk, (saying,))[0])[2][1]), 1 + width_of(talk, cases_of(talk, (saying,))[0]))
        self.assertIn(str(10 ** 61), saying_text(saying))


class Errors(unittest.TestCase):
    def test_all_are_of_two_kinds(self):
        found = importlib.import_module("countfold.errors")
        for entry in INTERFACE["errors"]:
            error = getattr(found, entry.split("(")[0])
            self.assertTrue(issubclass(error, (FoldError, LackError)))
            self.assertIn(error.__bases__, [(ValueError,), (LookupError,), (FoldError,), (LackError,)])


if __name__ == "__main__":
    unittest.main()
