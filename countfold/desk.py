"""Desks: a store that is told lines and answers in texts."""

from countfold.errors import NoLine, NoText
from countfold.names import figures
from countfold.reading import read_number, read_saying, read_sum, read_talk
from countfold.store import Store
from countfold.texts import book_text

# Each word with the blank behind it where more is to come.
_WORDS = ("talk ", "say ", "mark", "drop ", "back", "can", "follows ", "least ", "greatest ", "clash", "book", "log")
_MOST_NUMBER = 9999999999


class Desk:
    """A store, None at first, and what is done with it line by line."""

    def __init__(self):
        self._store = None

    def say(self, line):
        """The answer to a line."""
        word, rest = _parted(line)
        if word == "talk":
            self._store = Store(read_talk(rest))
            return "ok"
        if self._store is None:
            raise NoLine(line)
        if word == "drop":
            self._store.drop(_number(rest, line))
            return "ok"
        return self._done(word, rest) if word in ("say", "mark", "back") else self._told(word, rest)

    def _done(self, word, rest):
        """The answer to a deed."""
        if word == "say":
            return figures(self._store.say(read_saying(rest)))
        if word == "mark":
            return figures(self._store.mark())
        self._store.back()
        return "ok"

    def _told(self, word, rest):
        """The answer to what is asked."""
        store = self._store
        if word == "can":
            return store.asked()[0]
        if word == "follows":
            return store.follows(saying=read_saying(rest))[0]
        if word == "least":
            return figures(store.ranged(total=read_sum(rest))[0])
        if word == "greatest":
            return figures(store.ranged(total=read_sum(rest))[3])
        if word == "clash":
            return _clash_text(store.clash())
        if word == "book":
            return book_text(store.talk(), tuple(list(store.standing().values())))
        return figures(len(store.log()))


def _parted(line):
    """The word of a line and what stands behind its blank."""
    if not isinstance(line, str):
        raise NoLine(line)
    word, blank, rest = line.partition(" ")
    if word + blank not in _WORDS:
        raise NoLine(line)
    return word, rest


def _number(text, line):
    """The number that is written, of at most ten figures."""
    try:
        number = read_number(text)
    except NoText:
        raise NoLine(line) from None
    if abs(number) > _MOST_NUMBER:
        raise NoLine(line)
    return number


def _clash_text(clash):
    if clash is None:
        return "none"
    return " ".join([figures(number) for number in clash[0]])
