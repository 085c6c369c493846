import copy
import sys
import unittest

from countfold.sums import row_of, sum_for
from countfold.talks import Talk
from countfold.texts import book_text, saying_text, sum_text, term_text, world_text
from countfold.worlds import worlds_many
from tests.plainly import deep_saying
from tests.things import THIRTY

SUM = (("lot", 3), ("num", -2, "n"), ("size", 4, "a"))


class TermText(unittest.TestCase):
    def test_each_form(self):
        for term, text in [("a", "a"), ("abcdefgh", "abcdefgh"), (("none",), "{}"), (("all",), "{*}"),
                           (("not", "a"), "!a"), (("and", "a", "b"), "(a & b)"), (("or", "a", "b"), "(a + b)"),
                           (("but", "a", "b"), "(a - b)"), (("not", ("not", ("all",))), "!!{*}"),
                           (("not", ("or", "b", ("none",))), "!(b + {})"),
                           (("and", ("or", "a", "b"), ("but", ("not", "c"), "a")), "((a + b) & (!c - a))")]:
            self.assertEqual(term_text(term), text)
        self.assertEqual(term_text(term=("not", "x")), "!x")

    def test_names_that_are_words(self):
        self.assertEqual(term_text("all"), "all")
        self.assertEqual(term_text(("and", "none", ("not", "not"))), "(none & !not)")


class SumText(unittest.TestCase):
    def test_each_form(self):
        for addends, text in [((), "."), ((("lot", 3),), "3"), ((("num", -2, "n"),), "-2 n"),
                              ((("size", 4, "a"),), "4 #a"), (SUM, "3 + -2 n + 4 #a"), ((("lot", 0),), "0"),
                              ((("lot", -1), ("lot", -1)), "-1 + -1"), ((("num", 0, "m"),), "0 m"),
                              ((("size", -1, ("not", ("and", "a", "b"))), ("lot", 10)), "-1 #!(a & b) + 10"),
                              ((("size", 1, ("all",)), ("size", 1, ("none",))), "1 #{*} + 1 #{}")]:
            self.assertEqual(sum_text(addends), text)
        self.assertEqual(sum_text(addends=(("lot", 7),)), "7")

    def test_of_a_talk_s_own(self):
        talk = Talk(("a",), ("n",))
        self.assertEqual(row_of(talk, sum_for(talk, (0, 0, 0, 0))), (0, 0, 0, 0))
        self.assertEqual(sum_text(sum_for(talk, (5, 0, 0, 0))), "5")


class Figures(unittest.TestCase):
    def test_noughts_within_and_behind(self):
        for figures in ["0", "1", "-1", "10", "-100", "9" * 30, "-" + "9" * 30, "1" + "0" * 63, "1" + "0" * 64,
                        "1" + "0" * 65, "-1" + "0" * 64, "9" * 64, "9" * 65, "1" + "0" * 127 + "7", "1" + "0" * 128,
                        "-5" + "0" * 63 + "3" + "0" * 70 + "12", "1234567890" * 40]:
            self.assertEqual(sum_text((("lot", int(figures)),)), figures)

    def test_more_than_python_turns_into_a_text_at_once(self):
        figures = "7" * 5000 + "0" * 100
        number = 7 * (10 ** 5000 - 1) // 9 * 10 ** 100
        self.assertEqual(sum_text((("lot", number),)), figures)
        self.assertEqual(sum_text((("num", -number, "n"), ("size", number, "a"))), f"-{figures} n + {figures} #a")
        self.assertEqual(saying_text(("parts", number, ())), f"[{figures} | .]")
        self.assertEqual(world_text(((0, number), (number,))), f"0,{figures};{figures}")
        talk = Talk((), ("n",), most=number)
        self.assertEqual(str(talk), f";n;{figures}")
        self.assertEqual(repr(talk), f"Talk(0 sets, 1 numbers, most {figures})")
        self.assertEqual(book_text(talk, ()), f";n;{figures}")

    def test_the_bound_of_python_stays_as_it_was(self):
        bound = sys.get_int_max_str_digits()
        many = worlds_many(Talk(("a", "b", "c"), ("m", "n"), most=THIRTY))
        self.assertEqual(sum_text((("lot", many),)), str(many))
        self.assertEqual(sys.get_int_max_str_digits(), bound)


class SayingText(unittest.TestCase):
    def test_each_word(self):
        for saying, text in [(("atmost", SUM, ()), "[3 + -2 n + 4 #a <= .]"), (("equal", (), SUM), "[. = 3 + -2 n + 4 #a]"),
                             (("parts", 3, SUM), "[3 | 3 + -2 n + 4 #a]"), (("parts", 2, ()), "[2 | .]"),
                             (("within", "a", ("not", "b")), "[a in !b]"), (("same", ("none",), "a"), "[{} is a]"),
                             (("not", ("within", "a", "b")), "~[a in b]"),
                             (("both", ("within", "a", "b"), ("same", "a", "b")), "([a in b] and [a is b])"),
                             (("either", ("within", "a", "b"), ("same", "a", "b")), "([a in b] or [a is b])")]:
            self.assertEqual(saying_text(saying), text)
            self.assertEqual(saying_text(("not", saying)), "~" + text)
        self.assertEqual(saying_text(saying=("atmost", (), ())), "[. <= .]")

    def test_within_one_another(self):
        left, right = ("within", "a", "b"), ("parts", 2, (("num", 1, "n"),))
        saying = ("either", ("both", ("not", left), right), ("not", ("either", right, ("not", ("not", left)))))
        self.assertEqual(saying_text(saying), "((~[a in b] and [2 | 1 n]) or ~([2 | 1 n] or ~~[a in b]))")

    def test_broad_ones(self):
        plain = ("within", "a", "b")
        for saying, text in [(("some", "a", plain), "some a [a in b]"), (("all", "b", plain), "all b [a in b]"),
                             (("some", "a", ("all", "b", plain)), "some a all b [a in b]"),
                             (("not", ("some", "a", ("not", plain))), "~some a ~[a in b]"),
                             (("both", ("all", "abcdefgh", plain), ("some", "a", plain)),
                              "(all abcdefgh [a in b] and some a [a in b])"),
                             (("all", "c", ("either", plain, plain)), "all c ([a in b] or [a in b])")]:
            self.assertEqual(saying_text(saying), text)

    def test_names_that_are_words(self):
        self.assertEqual(saying_text(("some", "some", ("within", "in", "is"))), "some some [in in is]")
        self.assertEqual(saying_text(("all", "not", ("both", ("within", "not", "not"), ("same", "a", "and")))),
                         "all not ([not in not] and [a is and])")

    def test_a_saying_much_deeper(self):
        self.assertEqual(saying_text(deep_saying(20001)), "~" * 20000 + "[a in b]")
        saying = ("within", "a", "b")
        for _ in range(20000):
            saying = ("both", saying, ("same", "a", "b"))
        self.assertEqual(saying_text(saying), "(" * 20000 + "[a in b]" + " and [a is b])" * 20000)


class WorldText(unittest.TestCase):
    def test_counts_and_values(self):
        for world, text in [(((0, 2, 1, 0), (5,)), "0,2,1,0;5"), (((3,), (4, 0)), "3;4,0"), (((10,) * 8, (12, 7)),
                            "10,10,10,10,10,10,10,10;12,7"), (((0, THIRTY), (THIRTY,)), "0," + "9" * 30 + ";" + "9" * 30)]:
            self.assertEqual(world_text(world), text)

    def test_without_values(self):
        self.assertEqual(world_text(((3,), ())), "3;")
        self.assertEqual(world_text(world=((1, 2), ())), "1,2;")


class BookText(unittest.TestCase):
    def test_no_saying(self):
        self.assertEqual(book_text(Talk(("a", "b"), ("n",)), ()), "a,b;n;12")
        self.assertEqual(book_text(sayings=(), talk=Talk()), ";;12")

    def test_a_line_for_each(self):
        talk = Talk(("a",), most=3)
        one, other = ("within", "a", ("none",)), ("some", "b", ("not", ("atmost", (), (("size", 1, "b"),))))
        self.assertEqual(book_text(talk, (one,)), "a;;3\n[a in {}]")
        self.assertEqual(book_text(talk, (other, one, one)), "a;;3\nsome b ~[. <= 1 #b]\n[a in {}]\n[a in {}]")

    def test_of_whatever_names(self):
        self.assertEqual(book_text(Talk(), (("within", "x", "y"), ("parts", 2, (("num", 1, "z"),)))),
                         ";;12\n[x in y]\n[2 | 1 z]")


class StaysAsItWas(unittest.TestCase):
    def test_what_is_handed_in(self):
        saying = ("both", ("atmost", SUM, SUM), ("within", ("not", "a"), "b"))
        world = ((1, 2), (3,))
        given, lived = copy.deepcopy(saying), copy.deepcopy(world)
        book_text(Talk(), (given,))
        world_text(lived)
        self.assertEqual((given, lived), (saying, world))


if __name__ == "__main__":
    unittest.main()
