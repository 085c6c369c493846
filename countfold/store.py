"""Stores: sayings of a talk, said and taken back, and what is asked of those that stand."""

from countfold.cases import cases_many
from countfold.errors import NoMark, NoNumber, NoSaying, TooMany
from countfold.names import MANY, is_whole
from countfold.prover import asked, follows
from countfold.ranges import ranged
from countfold.sayings import is_saying
from countfold.talks import Talk

_MOST_STANDING = 12


class Store:
    """The sayings that stand, by their numbers; the marks; and a log of what was done and asked."""

    def __init__(self, talk):
        self._talk = Talk(talk.sets(), talk.numbers(), most=talk.most())
        self._standing = {}
        self._next = 0
        # What stood at each mark, the last one last; none of these dicts is changed.
        self._marks = []
        self._laid = []

    def say(self, saying):
        """Says one; its number."""
        self._laid.append(("in", "say"))
        try:
            return self._say_each((saying,))[0]
        finally:
            self._laid.append(("out", "say"))

    def say_all(self, sayings):
        """Says several, or, where one is refused, none; their numbers."""
        self._laid.append(("in", "say_all"))
        try:
            if not isinstance(sayings, (tuple, list)):
                raise NoSaying(sayings)
            return self._say_each(sayings)
        finally:
            self._laid.append(("out", "say_all"))

    def _say_each(self, sayings):
        standing = dict(self._standing)
        numbers = []
        for saying in sayings:
            self._check(standing, saying)
            number = self._next + len(numbers)
            standing[number] = saying
            numbers.append(number)
        self._standing = standing
        self._next += len(numbers)
        return tuple(numbers)

    def _check(self, standing, saying):
        """Refuses what can't be said beside what stands."""
        if not is_saying(self._talk, saying):
            raise NoSaying(saying)
        if len(standing) >= _MOST_STANDING:
            raise TooMany(_MOST_STANDING + 1)
        many = cases_many((*list(standing.values()), saying))
        if many > MANY:
            raise TooMany(many)

    def drop(self, number):
        """Takes back the one of this number."""
        self._laid.append(("in", "drop"))
        try:
            # Numbers first: what is no number may be no key.
            if not is_whole(number) or number not in self._standing:
                raise NoNumber(number)
            self._standing = {kept: self._standing[kept] for kept in self._standing if kept != number}
        finally:
            self._laid.append(("out", "drop"))

    def mark(self):
        """Marks what stands; how many marks there are then."""
        self._laid.append(("in", "mark"))
        try:
            self._marks.append(self._standing)
            return len(self._marks)
        finally:
            self._laid.append(("out", "mark"))

    def back(self):
        """Just what stood at the last mark stands again; the mark is gone."""
        self._laid.append(("in", "back"))
        try:
            if not self._marks:
                raise NoMark("there is no mark")
            self._standing = self._marks.pop()
        finally:
            self._laid.append(("out", "back"))

    def _sayings(self):
        """The sayings that stand, in order."""
        return tuple(list(self._standing.values()))

    def asked(self):
        """A world in which all that stand are true, or papers of them."""
        self._laid.append(("in", "asked"))
        try:
            return asked(self._talk, self._sayings())
        finally:
            self._laid.append(("out", "asked"))

    def follows(self, *, saying):
        """Papers that one more follows from those that stand, or a world where it doesn't."""
        self._laid.append(("in", "follows"))
        try:
            return follows(self._talk, self._sayings(), saying=saying)
        finally:
            self._laid.append(("out", "follows"))

    def ranged(self, *, total):
        """The range of a sum where those that stand are true."""
        self._laid.append(("in", "ranged"))
        try:
            return ranged(self._talk, self._sayings(), total=total)
        finally:
            self._laid.append(("out", "ranged"))

    def clash(self):
        """None where those that stand can all be true, else a least clash of them."""
        self._laid.append(("in", "clash"))
        try:
            return _least_clash(self._talk, self._standing)
        finally:
            self._laid.append(("out", "clash"))

    def standing(self):
        """The sayings that stand, by their numbers."""
        return dict(self._standing)

    def log(self):
        """What was laid so far."""
        return tuple(self._laid)

    def talk(self):
        """The talk that the sayings are of."""
        return self._talk

    def twin(self):
        """A store of its own, so far alike in all."""
        other = Store(self._talk)
        other._standing, other._next = self._standing, self._next
        other._marks, other._laid = list(self._marks), list(self._laid)
        return other

    def __eq__(self, other):
        return (isinstance(other, Store) and self._talk == other._talk
                and list(self._standing.values()) == list(other._standing.values()))

    def __len__(self):
        return len(self._standing)

    def __repr__(self):
        return f"Store({len(self._standing)} sayings)"


def _least_clash(talk, standing):
    """Numbers of sayings none of which can be left out, papers of them, and worlds where all others are true."""
    word, papers = asked(talk, tuple(list(standing.values())))
    if word == "yes":
        return None
    left = list(standing)
    worlds = {}
    for number in standing:
        others = [other for other in left if other != number]
        word, found = asked(talk, tuple([standing[other] for other in others]))
        if word == "yes":
            worlds[number] = found
        else:
            left, papers = others, found
    return tuple(left), papers, tuple([worlds[number] for number in left])
