"""Makers of terms, sums, sayings and systems: by a seed, so that each run makes the same ones."""

import random

NAMES, NUMBERS = ("a", "b", "c"), ("m", "n")


class Maker:
    def __init__(self, seed):
        self.random = random.Random(seed)

    def among(self, *things):
        return self.random.choice(things)

    def whole(self, least, most):
        return self.random.randint(least, most)

    def term(self, talk, deep):
        if deep == 1 or self.whole(0, 9) < 3:
            return self.among(*talk.sets(), ("none",), ("all",))
        word = self.among("not", "and", "or", "but")
        return (word, *[self.term(talk, deep - 1) for _ in range(1 if word == "not" else 2)])

    def sum(self, talk, most=4, addends=3):
        words = ["lot", "size", "size"] + ["num"] * len(talk.numbers())
        made = []
        for _ in range(self.whole(0, addends)):
            word, k = self.among(*words), self.whole(-most, most)
            made.append({"lot": lambda: (word, k), "num": lambda: (word, k, self.among(*talk.numbers())),
                         "size": lambda: (word, k, self.term(talk, 3))}[word]())
        return tuple(made)

    def saying(self, talk, deep, most=4):
        if deep == 1 or self.whole(0, 9) < 3:
            word = self.among("atmost", "equal", "parts", "within", "same")
            if word in ("within", "same"):
                return word, self.term(talk, 3), self.term(talk, 3)
            first = self.whole(2, 2 + most) if word == "parts" else self.sum(talk, most)
            return word, first, self.sum(talk, most)
        word = self.among("not", "both", "either")
        return (word, *[self.saying(talk, deep - 1, most) for _ in range(1 if word == "not" else 2)])

    def sayings(self, talk, many, deep, most=4):
        return tuple(self.saying(talk, deep, most) for _ in range(many))

    def row(self, width, most):
        return tuple(self.whole(-most, most) for _ in range(width + 1))

    def system(self, width, many, most):
        return tuple((self.among("least", "least", "nought"), self.row(width, most)) for _ in range(many))

    def system_at(self, values, many, most, slack=0):
        """A system that these values fit."""
        made = []
        for _ in range(many):
            coefs = self.row(len(values) - 1, most)
            worth = sum(coef * value for coef, value in zip(coefs, values))
            kind = self.among("least", "least", "nought")
            made.append((kind, (-worth + (self.whole(0, slack) if kind == "least" else 0), *coefs)))
        return tuple(made)
