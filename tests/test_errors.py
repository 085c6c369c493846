import unittest

from countfold import errors
from tests.things import THIRTY, no_texts

FOLD_TEXTS = ("NoTalk", "NoText", "NoWorld", "NoPapers", "NoMark")
FOLD_VALUES = {"TooMany": "many", "NotBase": "paper", "NoSaying": "saying", "NoSum": "total",
               "NoExchange": "exchange", "NoLine": "line"}
LACK_VALUES = {"NoName": "name", "NoRegion": "region", "NoNumber": "number"}


class Families(unittest.TestCase):
    def test_heads_stand_right_under_python_s_own(self):
        self.assertEqual(errors.FoldError.__bases__, (ValueError,))
        self.assertEqual(errors.LackError.__bases__, (LookupError,))

    def test_fold_errors_stand_right_under_fold_error(self):
        for name in [*FOLD_TEXTS, *FOLD_VALUES]:
            self.assertEqual(getattr(errors, name).__bases__, (errors.FoldError,), name)

    def test_lack_errors_stand_right_under_lack_error(self):
        for name in LACK_VALUES:
            self.assertEqual(getattr(errors, name).__bases__, (errors.LackError,), name)

    def test_there_are_no_others(self):
        own = {name for name, found in vars(errors).items() if isinstance(found, type)}
        told = {"FoldError", "LackError", *FOLD_TEXTS, *FOLD_VALUES, *LACK_VALUES}
        self.assertEqual(own, told)


class Values(unittest.TestCase):
    def test_those_made_of_a_text_tell_it(self):
        for name in ["FoldError", "LackError", *FOLD_TEXTS]:
            self.assertEqual(str(getattr(errors, name)("so it is")), "so it is", name)

    def test_the_very_thing_is_borne(self):
        for name, attribute in [*FOLD_VALUES.items(), *LACK_VALUES.items()]:
            made = getattr(errors, name)
            for thing in [*no_texts(), "text", object(), 10 ** 5000]:
                self.assertIs(getattr(made(thing), attribute), thing, name)
                self.assertIs(getattr(made(**{attribute: thing}), attribute), thing, name)

    def test_they_are_raised_and_caught_by_their_families(self):
        with self.assertRaises(ValueError) as caught:
            raise errors.TooMany(THIRTY)
        self.assertEqual(caught.exception.many, THIRTY)
        with self.assertRaises(LookupError) as caught:
            raise errors.NoRegion([8])
        self.assertEqual(caught.exception.region, [8])

    def test_a_message_is_told_of_anything(self):
        for name in [*FOLD_VALUES, *LACK_VALUES]:
            for thing in [*no_texts(), "text", 10 ** 5000]:
                self.assertIsInstance(str(getattr(errors, name)(thing)), str)


if __name__ == "__main__":
    unittest.main()
