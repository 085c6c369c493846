import unittest

from countfold.errors import NoText
from countfold.reading import DEEP, read_book, read_saying, read_sum, read_talk, read_term, read_world
from countfold.talks import Talk
from countfold.texts import book_text, saying_text, sum_text, term_text, world_text
from countfold.worlds import world_at, worlds_many
from tests.makers import Maker
from tests.plainly import broad_term, deep_saying, deep_term
from tests.things import THIRTY, no_texts, refused

READERS = [read_term, read_sum, read_saying, read_talk, read_world, read_book]
A_IN_B = ("within", "a", "b")
WORDS = ["and", "or", "in", "is", "not", "some", "all", "none", "but", "parts", "both", "either", "a", "abcdefgh"]


def none_read(test, read, texts, **more):
    for text in texts:
        with test.subTest(read=read.__name__, text=text):
            refused(test, NoText, read, text, **more)


def changed(text, signs):
    """The text with each sign left out, told twice, or exchanged for, or led by, another one; or with one behind."""
    for at in range(len(text)):
        yield text[:at] + text[at + 1:]
        yield text[:at] + text[at] + text[at:]
        for sign in signs:
            yield text[:at] + sign + text[at:]
            yield text[:at] + sign + text[at + 1:]
    for sign in signs:
        yield text + sign


class Terms(unittest.TestCase):
    def test_each_form(self):
        for text, term in [("a", "a"), ("abcdefgh", "abcdefgh"), ("{}", ("none",)), ("{*}", ("all",)),
                           ("!a", ("not", "a")), ("(a & b)", ("and", "a", "b")), ("(a + b)", ("or", "a", "b")),
                           ("(a - b)", ("but", "a", "b")), ("!!{*}", ("not", ("not", ("all",)))),
                           ("((a + b) & (!c - {}))", ("and", ("or", "a", "b"), ("but", ("not", "c"), ("none",))))]:
            self.assertEqual(read_term(text), term)
        self.assertEqual(read_term(text="!z", deep=1), ("not", "z"))

    def test_names_that_are_words(self):
        for word in WORDS:
            self.assertEqual(read_term(word), word)
            self.assertEqual(read_term(f"(!{word} & {word})"), ("and", ("not", word), word))

    def test_a_hundred_names_wide(self):
        for many in (100, 299):
            term = broad_term(many)
            self.assertEqual(read_term(term_text(term)), term)

    def test_all_that_is_written_otherwise(self):
        none_read(self, read_term, [
            "", " ", "A", "a1", "1", "a b", "abcdefghi", "a ", " a", "a\n", "\na", "{", "}", "{ }", "{**}", "{*", "{a}",
            "!", "! a", "a!", "(a)", "()", "(a & b", "a & b", "a & b)", "(a&b)", "(a  & b)", "(a &  b)", "( a & b)",
            "(a & b )", "(a | b)", "(a in b)", "(a and b)", "(a & b & c)", "((a & b))", "(a & )", "( & b)", "(a + - b)",
            "(a -b)", "(a & b)a", "(a & b)(a & b)", "a-b", "[a in b]", ".", "#a", "\u00e4", "(a \u0026\u00a0b)"])

    def test_each_sign_changed(self):
        for text in ["!a", "(a & {*})", "(!ab - {})"]:
            for other in changed(text, " !(){}*&+-a#.1"):
                try:
                    self.assertEqual(term_text(read_term(other)), other)
                except NoText:
                    pass


class Deep(unittest.TestCase):
    def test_the_constant(self):
        self.assertEqual(DEEP, 40)

    def test_forty_and_forty_one_terms(self):
        for deep in (1, 2, 39, 40):
            term = deep_term(deep + 1)
            self.assertEqual(read_term(term_text(term)), term)
            self.assertEqual(read_term(term_text(term), deep=deep), term)
            refused(self, NoText, read_term, term_text(term), deep=deep - 1)
        refused(self, NoText, read_term, term_text(deep_term(42)))
        refused(self, NoText, read_term, "(" * 41 + "a" + " & b)" * 41)
        self.assertEqual(term_text(read_term("(" * 40 + "a" + " & b)" * 40)), "(" * 40 + "a" + " & b)" * 40)
        self.assertEqual(term_text(read_term("(b - " * 40 + "a" + ")" * 40)), "(b - " * 40 + "a" + ")" * 40)
        refused(self, NoText, read_term, "(b - " * 40 + "!a" + ")" * 40)

    def test_none_at_all(self):
        for text in ["a", "{}", "{*}"]:
            read_term(text, deep=0)
        for text in [".", "3", "-2 n", "4 #a", "4 #{} + 1 #{*}"]:
            read_sum(text, deep=0)
        none_read(self, read_term, ["!a", "(a & b)"], deep=0)
        none_read(self, read_sum, ["4 #!a", "1 + 4 #(a + b)"], deep=0)
        none_read(self, read_saying, ["[a in b]", "[. = .]", "~[a in b]", "some a [a in b]"], deep=0)
        none_read(self, read_book, [";;1\n[a in b]"], deep=0)
        self.assertEqual(read_book(";;1", deep=0), (Talk(most=1), ()))

    def test_all_kinds_within_one_another(self):
        for text, deep in [("[a in b]", 1), ("[!a in b]", 2), ("[a is (b & !c)]", 3), ("[2 | 1 #!a]", 2),
                           ("[1 = 2 #(a - b)]", 2), ("~[a in b]", 2), ("([a in b] and ~[a in b])", 3),
                           ("(~[a in b] or [a in b])", 3), ("some a [a in b]", 2), ("all a [a in !b]", 3),
                           ("some a ~all b ([a in b] and [!!a is b])", 7)]:
            self.assertEqual(saying_text(read_saying(text, deep=deep)), text)
            self.assertEqual(saying_text(read_saying(text)), text)
            refused(self, NoText, read_saying, text, deep=deep - 1)
            self.assertEqual(read_book(";;1\n" + text, deep=deep)[1], (read_saying(text),))
            refused(self, NoText, read_book, ";;1\n" + text, deep=deep - 1)

    def test_forty_and_forty_one_sayings(self):
        for deep in (40, 41):
            texts = [saying_text(deep_saying(deep)), "some a " * (deep - 1) + "[a in b]", "all a " * (deep - 1) + "[a in b]",
                     "(" * (deep - 1) + "[a in b]" + " or [b in a])" * (deep - 1),
                     "~" * (deep - 2) + "[2 | 1 #!a]"]
            for text in texts:
                if deep == 40:
                    self.assertEqual(saying_text(read_saying(text)), text)
                else:
                    refused(self, NoText, read_saying, text)


class Sums(unittest.TestCase):
    def test_each_form(self):
        for text, addends in [(".", ()), ("3", (("lot", 3),)), ("-2 n", (("num", -2, "n"),)), ("0", (("lot", 0),)),
                              ("4 #a", (("size", 4, "a"),)), ("0 n", (("num", 0, "n"),)),
                              ("3 + -2 n + 4 #a", (("lot", 3), ("num", -2, "n"), ("size", 4, "a"))),
                              ("1 #(a + b) + 5", (("size", 1, ("or", "a", "b")), ("lot", 5))),
                              ("-1 #!(a & b) + 10", (("size", -1, ("not", ("and", "a", "b"))), ("lot", 10)))]:
            self.assertEqual(read_sum(text), addends)
            self.assertEqual(read_sum(deep=2, text=text), addends)

    def test_names_that_are_words(self):
        for word in WORDS:
            self.assertEqual(read_sum(f"1 {word} + 2 #{word}"), (("num", 1, word), ("size", 2, word)))

    def test_more_than_twelve_addends(self):
        addends = (("lot", 1), ("num", -2, "n"), ("size", 3, ("not", "a"))) * 40
        self.assertEqual(read_sum(sum_text(addends)), addends)

    def test_thirty_figures_and_thirty_one(self):
        for number in (THIRTY, -THIRTY, 10 ** 29, -10 ** 29):
            for text in ["{}", "{} n", "{} #a", "1 + {} + 2"]:
                self.assertEqual(sum_text(read_sum(text.format(number))), text.format(number))
                refused(self, NoText, read_sum, text.format(number) .replace(str(number), str(number) + "0"))

    def test_all_that_is_written_otherwise(self):
        none_read(self, read_sum, [
            "", " ", "..", ". + 1", "1 + .", "00", "01", "-0", "-01", "+1", "--1", "- 1", "-", "1_0", "1.0", "1e3", "0x1",
            "00 n", "-0 #a", "1 ", " 1", "1\n", "1  n", "1 n ", "1n", "1#a", "1 # a", "1  #a", "1 #", "#a", "n", "1 N",
            "1+2", "1 +2", "1+ 2", "1  + 2", "1 +  2", "1 + ", " + 1", "1 - 2", "1 + + 2", "1 n n", "1 n #a", "1 #a n",
            "1 abcdefghi", "1 #abcdefghi", "1 #a + b", "1 a & b", "3 = 3", "\u0663", "1\u00a0n", "1" + "0" * 30])

    def test_each_sign_changed(self):
        for text in [".", "10 + -2 n", "4 #!a + 0"]:
            for other in changed(text, " 0+-#.na!"):
                try:
                    self.assertEqual(sum_text(read_sum(other)), other)
                except NoText:
                    pass


class Sayings(unittest.TestCase):
    def test_each_word(self):
        for text, saying in [("[3 <= .]", ("atmost", (("lot", 3),), ())), ("[. = 1 n]", ("equal", (), (("num", 1, "n"),))),
                             ("[3 | 1 #a + 2]", ("parts", 3, (("size", 1, "a"), ("lot", 2)))),
                             ("[2 | .]", ("parts", 2, ())), ("[3 = 3]", ("equal", (("lot", 3),), (("lot", 3),))),
                             ("[a in !b]", ("within", "a", ("not", "b"))), ("[{} is {*}]", ("same", ("none",), ("all",))),
                             ("[(a - b) in (a + b)]", ("within", ("but", "a", "b"), ("or", "a", "b"))),
                             ("~[a in b]", ("not", A_IN_B)), ("([a in b] and ~[a in b])", ("both", A_IN_B, ("not", A_IN_B))),
                             ("([a in b] or [a in b])", ("either", A_IN_B, A_IN_B))]:
            self.assertEqual(read_saying(text), saying)
            self.assertEqual(read_saying("~" + text, deep=5), ("not", saying))
        self.assertEqual(read_saying(text="[a in b]"), A_IN_B)

    def test_broad_ones(self):
        for text, saying in [("some a [a in b]", ("some", "a", A_IN_B)), ("all b ~[a in b]", ("all", "b", ("not", A_IN_B))),
                             ("some a all b [a in b]", ("some", "a", ("all", "b", A_IN_B))),
                             ("(all c [a in b] or some a [a in b])",
                              ("either", ("all", "c", A_IN_B), ("some", "a", A_IN_B))),
                             ("some a some a [a in b]", ("some", "a", ("some", "a", A_IN_B)))]:
            self.assertEqual(read_saying(text), saying)

    def test_names_that_are_words(self):
        for word in WORDS:
            for saying in [("within", word, word), ("same", word, ("not", word)), ("some", word, A_IN_B),
                           ("all", word, ("some", word, ("within", "a", word))),
                           ("atmost", (("num", 1, word),), (("size", -1, word),)),
                           ("both", ("within", word, "a"), ("all", word, ("same", word, "a")))]:
                self.assertEqual(read_saying(saying_text(saying)), saying)

    def test_parts_take_two_or_more(self):
        for g in [2, 10, THIRTY]:
            self.assertEqual(read_saying(f"[{g} | 1 n]"), ("parts", g, (("num", 1, "n"),)))
        none_read(self, read_saying, [f"[{g} | 1 n]" for g in
                                      ["1", "0", "-1", "-2", "-0", "02", "1 n", "2 n", "2 #a", "2 + 2", ".", "", "a",
                                       THIRTY + 1]])

    def test_all_that_is_written_otherwise(self):
        none_read(self, read_saying, [
            "", " ", "[]", "[", "]", "a", ".", "3", "a in b", "[a in b", "a in b]", "[a in b]]", "[[a in b]]", "([a in b])",
            "[a  in b]", "[a in  b]", "[a inb]", "[ain b]", "[ a in b]", "[a in b ]", "[a IN b]", "[a of b]", "[a and b]",
            "[a <= b]", "[a = b]", "[1 in 2]", "[1 is a]", "[a is 1]", "[1 < 2]", "[1 >= 2]", "[1 == 2]", "[1<=2]",
            "[1 <=2]", "[1=2]", "[1 =  2]", "[1 <= 2 <= 3]", "[1 = 2 | 3]", "[2|.]", "[2 |.]", "[2| .]", "[2 | 2 | 2]",
            "~", "~~", "~ [a in b]", "[a in b]~", "([a in b] and [a in b]", "[a in b] and [a in b]",
            "([a in b]  and [a in b])", "([a in b] and  [a in b])", "([a in b] & [a in b])", "([a in b] or)",
            "([a in b] and [a in b] and [a in b])", "([a in b]and [a in b])", "( or [a in b])", "some [a in b]",
            "some a", "some a ", "some  a [a in b]", "some a  [a in b]", "somea [a in b]", "some a[a in b]", "Some a [a in b]",
            "any a [a in b]", "some abcdefghi [a in b]", "some 1 [a in b]", "all [a in b]", "alla [a in b]", "all a b",
            "[a in b]\n", "\n[a in b]", "[a in\nb]", "[a in b] ", " [a in b]", "some a [a in b] ", "[\u00e4 in b]"])

    def test_each_sign_changed(self):
        for text in ["~[a in b]", "[2 | 1 #a]", "([. = 0] or [a is {}])", "some a [a in b]", "all all [1 <= .]"]:
            for other in changed(text, " ~[]()<=|.012-+#a{}!s"):
                try:
                    self.assertEqual(saying_text(read_saying(other)), other)
                except NoText:
                    pass

    def test_made_ones(self):
        maker = Maker(4)
        talk = Talk(("a", "b", "in"), ("is", "n"))
        for number in range(300):
            saying = maker.saying(talk, 6, most=maker.among(4, THIRTY))
            self.assertEqual(read_saying(saying_text(saying)), saying)


class Talks(unittest.TestCase):
    def test_each(self):
        for text, talk in [("a,b;n;12", Talk(("a", "b"), ("n",))), (";;12", Talk()), ("a;;1", Talk(("a",), most=1)),
                           (";m,n;5", Talk((), ("m", "n"), most=5)),
                           ("a,b,c;m,n;" + "9" * 30, Talk(("a", "b", "c"), ("m", "n"), most=THIRTY)),
                           ("abcdefgh,or;and;2", Talk(("abcdefgh", "or"), ("and",), most=2))]:
            self.assertEqual(read_talk(text), talk)
            self.assertEqual(str(read_talk(text=text)), text)
        self.assertIsNot(read_talk(";;1"), read_talk(";;1"))

    def test_all_that_is_written_otherwise(self):
        none_read(self, read_talk, [
            "", ";", ";;", "a;n", "a;n;", "a;n;0", "a;n;-1", "a;n;01", "a;n;-0", "a;n;+1", "a;n;1;", ";a;n;1", "a;n;1 ",
            " a;n;1", "a; n;1", "a;n; 1", "a;n;1\n", "\na;n;1", "a ;n;1", "a, b;n;1", "b,a;;1", "a,a;;1", "a;a;1", ";n,m;1",
            "a,b,c,d;;1", ";k,m,n;1", ",a;;1", "a,;;1", "a,,b;;1", ",;;1", ";,;1", "A;;1", "a1;;1", "abcdefghi;;1",
            ";abcdefghi;1", "a;n;b", "a;n;1.0", "a;n;1" + "0" * 30, "a:n:1", "a;n;{1}", "a,b;n;12;", "\u00e4;;1", "a;n;\u0661"])

    def test_each_sign_changed(self):
        for other in changed("a,b;n;12", " ,;ab01-"):
            try:
                self.assertEqual(str(read_talk(other)), other)
            except NoText:
                pass


class Worlds(unittest.TestCase):
    def test_each(self):
        for text, world in [("0,2,1,0;5", ((0, 2, 1, 0), (5,))), ("3;", ((3,), ())), ("0,0;1,2", ((0, 0), (1, 2))),
                            ("1,2,3,4,5,6,7,8;9,10", ((1, 2, 3, 4, 5, 6, 7, 8), (9, 10))),
                            ("9" * 30 + ",0;" + "9" * 30, ((THIRTY, 0), (THIRTY,)))]:
            self.assertEqual(read_world(text), world)
            self.assertEqual(world_text(read_world(text=text)), text)

    def test_each_world_of_small_talks(self):
        for sets, numbers in [(0, 0), (0, 2), (1, 1), (2, 0), (3, 0)]:
            talk = Talk(("a", "b", "c")[:sets], ("m", "n")[:numbers], most=2)
            for number in range(worlds_many(talk)):
                world = world_at(talk, number)
                self.assertEqual(read_world(world_text(world)), world)

    def test_as_many_counts_and_values_as_some_talk_has(self):
        for counts in range(18):
            for values in range(5):
                text = ",".join(["1"] * counts) + ";" + ",".join(["2"] * values)
                if counts in (1, 2, 4, 8) and values <= 2:
                    self.assertEqual(read_world(text), ((1,) * counts, (2,) * values))
                else:
                    refused(self, NoText, read_world, text)

    def test_all_that_is_written_otherwise(self):
        none_read(self, read_world, [
            "", ";", "3", ";3", "3;;", ";3;", "3;4;5", "-1;", "3;-1", "1,-1;", "3;-0", "-0;", "03;", "3;00", "3; ", " 3;",
            "3 ;", "3;4 ", "3, 4;", "3;4, 5", "3,;", ",3;", "3,,4;", "3;,", "3;4,", "3;,4", "3;\n", "a;", "3;n", "3.0;",
            "+3;", "(3);", "1" + "0" * 30 + ";", "3;1" + "0" * 30, "\u0663;", "1,2:3"])

    def test_each_sign_changed(self):
        for other in changed("10,2;0,3", " ,;01-"):
            try:
                self.assertEqual(world_text(read_world(other)), other)
            except NoText:
                pass


class Books(unittest.TestCase):
    def test_each(self):
        talk = Talk(("a", "b"), ("n",))
        saying, broad = ("atmost", (), (("num", 1, "n"),)), ("some", "c", ("within", "x", "zebra"))
        for sayings in [(), (saying,), (saying, broad), (saying, saying), (broad, saying, broad)]:
            self.assertEqual(read_book(book_text(talk, sayings)), (talk, sayings))
            self.assertEqual(read_book(text=book_text(talk, sayings), deep=3), (talk, sayings))

    def test_all_that_is_written_otherwise(self):
        none_read(self, read_book, [
            "", "\n", "[a in b]", "a;;1\n", "\na;;1", "a;;1\n\n[a in b]", "a;;1\n[a in b]\n", "a;;1\n[a in b]\n\n[a in b]",
            "[a in b]\na;;1", "a;;1\na;;1", "a;;0\n[a in b]", "a,a;;1\n[a in b]", "a;;1\n[a in b] ", "a;;1\n [a in b]",
            "a;;1 [a in b]", "a;;1\n[a in b][a in b]", "a;;1\n[a in b]\n[a of b]", "a;;1\n[a of b]\n[a in b]",
            "a;;1\r\n[a in b]", "a;;1\n.", "a;;1\n3;", "a;;1\n[1 | 2]"])


class OfAnything(unittest.TestCase):
    def test_what_is_no_text(self):
        for read in READERS:
            for thing in [*no_texts(), b"a", ("a;;1",), ["[a in b]"], {"3;": 1}]:
                refused(self, NoText, read, thing)

    def test_what_another_one_reads(self):
        for own, texts in {read_term: ["a", "!a"], read_sum: [".", "1 + 2"], read_saying: ["[a in b]"],
                           read_talk: ["a;;1"], read_world: ["3;4"]}.items():
            for read in READERS:
                if read not in (own, read_book):
                    none_read(self, read, texts)

    def test_the_same_question_has_the_same_answer(self):
        for read, text in [(read_term, "(a & b)"), (read_sum, "1 n"), (read_saying, "[a in b]"), (read_talk, "a;;1"),
                           (read_world, "3;4"), (read_book, "a;;1\n[a in b]")]:
            self.assertEqual(read(text), read(text))


if __name__ == "__main__":
    unittest.main()
