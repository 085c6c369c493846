import unittest

from countfold.names import MANY, MOST, is_name, is_whole
from tests.things import THIRTY, no_texts, no_wholes


class Constants(unittest.TestCase):
    def test_constants(self):
        self.assertEqual((MOST, MANY), (12, 32))


class IsWhole(unittest.TestCase):
    def test_without_bounds_each_whole_number_is_one(self):
        for number in [0, 1, -1, 12, THIRTY, -THIRTY]:
            self.assertIs(is_whole(number), True)
            self.assertIs(is_whole(number, least=None, most=None), True)

    def test_nothing_else_is_one(self):
        for thing in no_wholes():
            self.assertIs(is_whole(thing), False)
            self.assertIs(is_whole(thing, least=0), False)
            self.assertIs(is_whole(thing, most=1), False)
            self.assertIs(is_whole(thing, least=0, most=1), False)

    def test_a_least_one(self):
        self.assertIs(is_whole(3, least=3), True)
        self.assertIs(is_whole(2, least=3), False)
        self.assertIs(is_whole(-2, least=-2), True)
        self.assertIs(is_whole(-3, least=-2), False)
        self.assertIs(is_whole(0, least=0), True)
        self.assertIs(is_whole(-1, least=0), False)
        self.assertIs(is_whole(THIRTY, least=THIRTY), True)
        self.assertIs(is_whole(THIRTY - 1, least=THIRTY), False)

    def test_a_greatest_one(self):
        self.assertIs(is_whole(3, most=3), True)
        self.assertIs(is_whole(4, most=3), False)
        self.assertIs(is_whole(0, most=0), True)
        self.assertIs(is_whole(1, most=0), False)
        self.assertIs(is_whole(-THIRTY, most=-THIRTY), True)
        self.assertIs(is_whole(1 - THIRTY, most=-THIRTY), False)

    def test_both(self):
        told = [is_whole(number, least=-1, most=1) for number in range(-3, 4)]
        self.assertEqual(told, [False, False, True, True, True, False, False])
        self.assertIs(is_whole(2, least=3, most=1), False)
        self.assertIs(is_whole(0, least=0, most=0), True)

    def test_by_name(self):
        self.assertIs(is_whole(thing=3, least=1, most=5), True)
        self.assertIs(is_whole(most=2, thing=3), False)
        with self.assertRaises(TypeError):
            is_whole(3, 1)


class IsName(unittest.TestCase):
    def test_one_to_eight_small_letters(self):
        for text in ["a", "z", "mno", "none", "abcdefgh", "stuvwxyz"]:
            self.assertIs(is_name(text), True, text)
        self.assertIs(is_name(thing="a"), True)

    def test_too_short_or_too_long(self):
        for text in ["", "abcdefghi", "a" * 3000]:
            self.assertIs(is_name(text), False, text)

    def test_another_sign(self):
        for sign in ["A", "Z", "0", "9", " ", "_", "-", "`", "{", "\n", "\r", "\t", "~", "\u00e4", "\u0430", "\u00aa"]:
            for text in [sign, "a" + sign, sign + "a", "a" + sign + "b"]:
                self.assertIs(is_name(text), False, repr(text))

    def test_what_is_no_text(self):
        for thing in no_texts():
            self.assertIs(is_name(thing), False)


if __name__ == "__main__":
    unittest.main()
