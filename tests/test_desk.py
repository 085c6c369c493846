import unittest

from countfold.desk import Desk
from countfold.errors import NoLine, NoMark, NoNumber, NoSaying, NoSum, NoText, NoWorld, TooMany
from countfold.reading import read_book
from countfold.talks import Talk
from tests.things import THIRTY, nested, no_wholes, refused

WORDS = ["mark", "back", "can", "clash", "book", "log"]
MORE = ["talk", "say", "drop", "follows", "least", "greatest"]


def desk(*lines):
    made = Desk()
    for line in ("talk a,b;n;5", *lines):
        made.say(line)
    return made


class Desks(unittest.TestCase):
    def told(self, made, *pairs):
        for line, answer in pairs:
            found = made.say(line)
            self.assertIs(type(found), str)
            self.assertEqual(found, answer, line)


class Lines(Desks):
    def test_each(self):
        made = Desk()
        self.told(made, ("talk a,b;n;5", "ok"), ("can", "yes"), ("say [3 <= 1 #a]", "0"), ("say [a in b]", "1"), ("can", "yes"), ("follows [3 <= 1 #b]", "yes"), ("follows [4 <= 1 #b]", "no"),
                  ("least 1 #b + -1 n", "-2"), ("greatest 1 #b + -1 n", "5"), ("clash", "none"), ("mark", "1"), ("say [1 #b <= 2]", "2"), ("can", "no"), ("clash", "0 1 2"), ("follows [1 n = 9]", "yes"),
                  ("drop 1", "ok"), ("can", "yes"), ("book", "a,b;n;5\n[3 <= 1 #a]\n[1 #b <= 2]"), ("back", "ok"), ("book", "a,b;n;5\n[3 <= 1 #a]\n[a in b]"), ("say [2 | 1 n]", "3"), ("mark", "1"), ("mark", "2"),
                  ("greatest 1 n", "4"), ("least .", "0"), ("least 0 n", "0"), ("greatest 7", "7"))
        self.assertEqual(made.say(line="can"), "yes")

    def test_the_log(self):
        made = Desk()
        words = 0
        for line in ["talk a,b;n;5", "book", "log", "say [a in b]", "mark", "drop 0", "back", "can", "follows [a in b]", "least 1 n", "greatest 1 n", "clash", "book", "log"]:
            answer = made.say(line)
            if line == "log":
                self.assertEqual(answer, str(words))
            elif line.split()[0] not in ("talk", "book"):
                words += 2
            self.told(made, ("log", str(words)))
        self.assertEqual(words, 18)

    def test_what_is_refused_by_the_store_is_laid(self):
        made = desk()
        for line, error in [("say [a in c]", NoSaying), ("drop 0", NoNumber), ("back", NoMark), ("follows [1 m <= 1]", NoSaying), ("least 1 m", NoSum), ("greatest 1 #c", NoSum)]:
            before = int(made.say("log"))
            refused(self, error, made.say, line)
            self.told(made, ("log", str(before + 2)))
        for line, error in [("say [a in c", NoText), ("drop x", NoLine), ("mark ", NoLine), ("least", NoLine), ("least ", NoText), ("talk ", NoText), ("follows", NoLine), ("follows ", NoText), ("cann", NoLine)]:
            before = made.say("log")
            refused(self, error, made.say, line)
            self.told(made, ("log", before))

    def test_a_talk_told_anew(self):
        made = desk("say [a in b]", "mark", "say [a is b]")
        self.told(made, ("talk c;;9", "ok"), ("log", "0"), ("book", "c;;9"), ("say [c is {}]", "0"))
        refused(self, NoMark, made.say, "back")
        refused(self, NoSaying, made.say, "say [a in b]")
        # One that is refused leaves the store as it was.
        for text in ("c;;0", "c,c;;9", "", "c;;9 ", "c;9", "c;;09", "d,c;;9"):
            refused(self, NoText, made.say, "talk " + text)
            self.told(made, ("book", "c;;9\n[c is {}]"))

    def test_books_are_read_back(self):
        lines = ["say ([a in b] or ~[3 | 1 n + -2 #(a & !b)])", "say [. = .]", "say [a is {*}]", "drop 1"]
        talk, sayings = read_book(desk(*lines).say("book"))
        self.assertEqual(talk, Talk(("a", "b"), ("n",), most=5))
        self.assertEqual(len(sayings), 2)
        self.assertEqual(read_book(desk().say("book")), (talk, ()))

    def test_numbers_of_many_figures(self):
        made = Desk()
        self.told(made, (f"talk ;n;{THIRTY}", "ok"), ("book", f";n;{THIRTY}"))
        made = desk()
        self.told(made, (f"greatest {THIRTY} n + {THIRTY} #a", str(10 * THIRTY)), (f"least -{THIRTY} n", str(-5 * THIRTY)))


class Refused(Desks):
    def no_lines(self, made, *lines):
        for line in lines:
            self.assertIs(refused(self, NoLine, made.say, line).line, line)

    def test_too_much_or_too_little(self):
        made = desk("say [a in b]")
        self.no_lines(made, *[word + " " for word in WORDS], *[word + " x" for word in WORDS], *[word + "  " for word in WORDS], *MORE, *[word + "\n" for word in WORDS + MORE],
                      *[word + "\n[a in b]" for word in MORE])
        for word in ("talk", "say", "follows", "least", "greatest"):
            refused(self, NoText, made.say, word + " ")
            refused(self, NoText, made.say, word + "  ")
            refused(self, NoText, made.say, word + " x y")
        self.told(made, ("book", "a,b;n;5\n[a in b]"))

    def test_blanks_and_line_ends_and_case(self):
        made = desk("say [a in b]")
        self.no_lines(made, *[" " + word for word in WORDS], " say [a in b]", "\nsay [a in b]", "can\n", "\ncan", *[word.upper() for word in WORDS], *[word.title() for word in WORDS], "SAY [a in b]", "Say [a in b]",
                      "", " ", "\n", "say[a in b]", "say\t[a in b]", "drop0", "hello", "hello world", "tal", "talks a;;5", "undo", "mark1", "logs", "book\nlog", "can\ncan", "[a in b]", "a,b;n;5", "0")
        for line in ["say  [a in b]", "say [a in b] ", "say [a in b]\n", "say \n[a in b]", "say [a in b]\nsay [a in b]", "say [A in b]", "least  1 n", "least 1 n ", "least 1  n", "talk  a;;5", "talk a;;5\n", "follows [a in b] ",
                     "talk a;;5 "]:
            refused(self, NoText, made.say, line)
        self.told(made, ("book", "a,b;n;5\n[a in b]"))

    def test_no_text(self):
        for made in (Desk(), desk()):
            for line in [*no_wholes(), True, 0, THIRTY, -1, ["can"], ("can",), {"can": 1}, nested(16)]:
                if not isinstance(line, str):
                    self.no_lines(made, line)

    def test_before_the_first_talk(self):
        made = Desk()
        lines = [*WORDS, "say [a in b]", "say", "say ", "say [a", "drop 0", "drop x", "follows [a in b]", "least .", "greatest x", "hello", ""]
        self.no_lines(made, *lines)
        self.no_lines(made, "talk")
        for text in ("", "a", "a;;0", "b,a;;5"):
            refused(self, NoText, made.say, "talk " + text)
            self.no_lines(made, *lines)
        self.told(made, ("talk ;;1", "ok"), ("log", "0"), ("book", ";;1"))

    def test_numbers(self):
        made = desk(*["say [a in b]"] * 11)
        self.no_lines(made, *["drop " + text for text in ["", " ", "x", "01", "00", "-0", "+1", "1 ", " 1", "1.", "1 2", "--1", "-", "1_0", "0x1", "12345678901", "-12345678901", "00000000001", "10000000000", "1\n", "a", "[a in b]",
                                                           str(THIRTY), "9" * 31, "9" * 2000]])
        for number in (11, -1, 9999999999, -9999999999, 1234567890, 100):
            self.assertEqual(refused(self, NoNumber, made.say, f"drop {number}").number, number)
        self.told(made, ("drop 10", "ok"), ("drop 0", "ok"))
        self.assertEqual(refused(self, NoNumber, made.say, "drop 0").number, 0)
        self.told(made, ("say [a in b]", "11"))

    def test_as_the_store_refuses(self):
        made = desk()
        self.assertEqual(refused(self, NoSaying, made.say, "say [a in c]").saying, ("within", "a", "c"))
        self.assertEqual(refused(self, NoSaying, made.say, "say some c [a in c]").saying, ("some", "c", ("within", "a", "c")))
        self.assertEqual(refused(self, NoSaying, made.say, "follows all c [a in c]").saying, ("all", "c", ("within", "a", "c")))
        self.assertEqual(refused(self, NoSaying, made.say, "say ~~~~~~[a in b]").saying[0], "not")
        self.assertEqual(refused(self, NoSum, made.say, "least 1 #(a & c)").total, (("size", 1, ("and", "a", "c")),))
        self.assertEqual(refused(self, NoSum, made.say, "greatest " + " + ".join(["1"] * 13)).total, (("lot", 1),) * 13)
        refused(self, NoMark, made.say, "back")
        either = "([a in b] or ~[1 n = 1])"
        self.told(made, (f"say ({either} and {either})", "0"), (f"say {either}", "1"))
        self.assertEqual(refused(self, TooMany, made.say, f"say {either}").many, 81)
        self.assertEqual(refused(self, TooMany, made.say, f"follows ~{either}").many, 81)
        for number in range(10):
            self.told(made, ("say [. = .]", str(2 + number)))
        self.assertEqual(refused(self, TooMany, made.say, "say [a in b]").many, 13)
        made = desk("say [. = 1]")
        refused(self, NoWorld, made.say, "least 1 n")
        refused(self, NoWorld, made.say, "greatest .")
        refused(self, NoSum, made.say, "greatest 1 m")

    def test_deep_texts(self):
        made = desk()
        refused(self, NoText, made.say, "say " + "~" * 40 + "[a in b]")
        self.assertEqual(refused(self, NoSaying, made.say, "say " + "~" * 39 + "[a in b]").saying[0], "not")
        self.told(made, ("say ~~~~~[a in b]", "0"))


class DesksApart(Desks):
    def test_each_has_a_store_of_its_own(self):
        one, other = desk("say [a in b]"), Desk()
        self.assertIs(refused(self, NoLine, other.say, "can").line, "can")
        self.told(other, ("talk c;;2", "ok"), ("say [c is {}]", "0"))
        self.told(one, ("book", "a,b;n;5\n[a in b]"), ("say [a in b]", "1"), ("log", "4"))
        self.told(other, ("log", "2"))


if __name__ == "__main__":
    unittest.main()
