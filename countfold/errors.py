"""The refusals: each bears, by its name, the very thing that it refuses.

No thing is written into a message: a whole number can have more figures than Python turns into a text.
"""


class FoldError(ValueError):
    """What is handed in is not what is asked for."""


class NoTalk(FoldError):
    """Names and a bound that make no talk."""


class NoText(FoldError):
    """What is not written as the document writes."""


class NoWorld(FoldError):
    """There is no such world."""


class NoPapers(FoldError):
    """What are not the papers asked for."""


class NoMark(FoldError):
    """There is no mark to go back to."""


class TooMany(FoldError):
    """More than may be; bears how many there are."""

    def __init__(self, many):
        FoldError.__init__(self, "too many")
        self.many = many


class NotBase(FoldError):
    """A paper that is no base."""

    def __init__(self, paper):
        FoldError.__init__(self, "not a base")
        self.paper = paper


class NoSaying(FoldError):
    """A thing that is no saying."""

    def __init__(self, saying):
        FoldError.__init__(self, "not a saying")
        self.saying = saying


class NoSum(FoldError):
    """A thing that is no sum."""

    def __init__(self, total):
        FoldError.__init__(self, "not a sum")
        self.total = total


class NoExchange(FoldError):
    """A thing that is no exchange that can be."""

    def __init__(self, exchange):
        FoldError.__init__(self, "not an exchange that can be")
        self.exchange = exchange


class NoLine(FoldError):
    """A thing that is no line for the desk."""

    def __init__(self, line):
        FoldError.__init__(self, "not a line")
        self.line = line


class LackError(LookupError):
    """What is asked for is not there."""


class NoName(LackError):
    """A thing that is no name of this kind here."""

    def __init__(self, name):
        LackError.__init__(self, "no such name")
        self.name = name


class NoRegion(LackError):
    """A thing that is no region of the talk."""

    def __init__(self, region):
        LackError.__init__(self, "no such region")
        self.region = region


class NoNumber(LackError):
    """A thing that is no number of what is asked for."""

    def __init__(self, number):
        LackError.__init__(self, "no such number")
        self.number = number
