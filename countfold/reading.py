"""Reading: of each text that texts.py writes just what is written, and of nothing else anything."""

from countfold.errors import NoTalk, NoText
from countfold.names import is_name
from countfold.talks import Talk

DEEP = 40

_LETTERS = "abcdefghijklmnopqrstuvwxyz"
_FIGURES = "0123456789"
_MOST_FIGURES = 30

# Signs, each with the word that it is written for.
_TERM_WORDS = ((" & ", "and"), (" + ", "or"), (" - ", "but"))
_SUM_WORDS = ((" <= ", "atmost"), (" = ", "equal"))
_SET_WORDS = ((" in ", "within"), (" is ", "same"))
_JOIN_WORDS = ((" and ", "both"), (" or ", "either"))
_BROAD_WORDS = (("some ", "some"), ("all ", "all"))


def read_term(text, *, deep=DEEP):
    """The term that is written."""
    return _read_whole(text, _term, deep)


def read_sum(text, *, deep=DEEP):
    """The sum that is written."""
    return _read_whole(text, _sum, deep)


def read_saying(text, *, deep=DEEP):
    """The saying that is written, plain or broad."""
    return _read_whole(text, _saying, deep)


def _read_whole(text, part, deep):
    """What a part, one of the readers below, reads of the text, where that is all of it."""
    _check_text(text)
    thing, end = part(text, 0, deep)
    if end != len(text):
        raise NoText("more than is read")
    return thing


def _check_text(thing):
    if not isinstance(thing, str):
        raise NoText("not a text")


# Each of the readers below takes a text, a place in it and how many signs may yet stand within one another,
# and tells what is written there and the place behind it.


def _term(text, at, deep):
    if text.startswith("{}", at):
        return ("none",), at + 2
    if text.startswith("{*}", at):
        return ("all",), at + 3
    sign = text[at:at + 1]
    if sign == "!":
        term, end = _term(text, at + 1, _less(deep))
        return ("not", term), end
    if sign == "(":
        first, end = _term(text, at + 1, _less(deep))
        word, end = _word(text, end, _TERM_WORDS)
        second, end = _term(text, end, _less(deep))
        return (word, first, second), _behind(text, end, ")")
    return _name(text, at)


def _less(deep):
    if deep < 1:
        raise NoText("too many signs within one another")
    return deep - 1


def _word(text, at, words):
    """The word of the one of these signs that stands there."""
    for sign, word in words:
        if text.startswith(sign, at):
            return word, at + len(sign)
    raise NoText("no such sign")


def _behind(text, at, sign):
    """The place behind a sign, which stands there."""
    if not text.startswith(sign, at):
        raise NoText("a sign is missing")
    return at + len(sign)


def _name(text, at):
    end = _end_of(text, at, _LETTERS)
    if not is_name(text[at:end]):
        raise NoText("not a name")
    return text[at:end], end


def _end_of(text, at, signs):
    """The first place from there on where none of these signs stands."""
    while at < len(text) and text[at] in signs:
        at += 1
    return at


def _number(text, at):
    first = at + 1 if text.startswith("-", at) else at
    end = _end_of(text, first, _FIGURES)
    if not 1 <= end - first <= _MOST_FIGURES:
        raise NoText("not a whole number of at most thirty figures")
    # A 0 stands alone: with nothing ahead of it, nothing behind it.
    if text[first] == "0" and end - at > 1:
        raise NoText("a 0 ahead of a number")
    return int(text[at:end]), end


def _sum(text, at, deep):
    if text.startswith(".", at):
        return (), at + 1
    addend, end = _addend(text, at, deep)
    addends = [addend]
    while text.startswith(" + ", end):
        addend, end = _addend(text, end + 3, deep)
        addends.append(addend)
    return tuple(addends), end


def _addend(text, at, deep):
    number, end = _number(text, at)
    if text.startswith(" #", end):
        term, end = _term(text, end + 2, deep)
        return ("size", number, term), end
    # A blank and no letter is of a sign behind the sum.
    if text.startswith(" ", end) and _end_of(text, end + 1, _LETTERS) > end + 1:
        name, end = _name(text, end + 1)
        return ("num", number, name), end
    return ("lot", number), end


def _saying(text, at, deep):
    deep = _less(deep)
    sign = text[at:at + 1]
    if sign == "[":
        saying, end = _plain(text, at + 1, deep)
        return saying, _behind(text, end, "]")
    if sign == "~":
        saying, end = _saying(text, at + 1, deep)
        return ("not", saying), end
    if sign == "(":
        first, end = _saying(text, at + 1, deep)
        word, end = _word(text, end, _JOIN_WORDS)
        second, end = _saying(text, end, deep)
        return (word, first, second), _behind(text, end, ")")
    word, end = _word(text, at, _BROAD_WORDS)
    name, end = _name(text, end)
    saying, end = _saying(text, _behind(text, end, " "), deep)
    return (word, name, saying), end


def _plain(text, at, deep):
    """A saying of sums or terms, without its brackets."""
    # No term begins as a sum does.
    if text[at:at + 1] not in [".", "-", *_FIGURES]:
        first, end = _term(text, at, deep)
        word, end = _word(text, end, _SET_WORDS)
        second, end = _term(text, end, deep)
        return (word, first, second), end
    first, end = _sum(text, at, deep)
    if text.startswith(" | ", end):
        total, behind = _sum(text, end + 3, deep)
        return ("parts", _divisor(first), total), behind
    word, end = _word(text, end, _SUM_WORDS)
    second, end = _sum(text, end, deep)
    return (word, first, second), end


def _divisor(addends):
    """The number of a sum that is one lot, 2 or more."""
    if len(addends) != 1 or addends[0][0] != "lot" or addends[0][1] < 2:
        raise NoText("not a number that can divide")
    return addends[0][1]


def read_talk(text):
    """The talk that is written."""
    _check_text(text)
    parts = text.split(";")
    if len(parts) != 3:
        raise NoText("not a talk's three parts")
    sets, numbers = [tuple(_listed(part)) for part in parts[:2]]
    try:
        return Talk(sets, numbers, most=read_number(parts[2]))
    except NoTalk:
        raise NoText("not a talk") from None


def _listed(text):
    """The texts that are written with commas between, perhaps none."""
    return text.split(",") if text else []


def read_number(text):
    """The whole number that is written, of at most thirty figures."""
    number, end = _number(text, 0)
    if end != len(text):
        raise NoText("more than a number")
    return number


def read_world(text):
    """The world that is written."""
    _check_text(text)
    parts = text.split(";")
    if len(parts) != 2:
        raise NoText("not a world's two parts")
    counts, values = [tuple([read_number(word) for word in _listed(part)]) for part in parts]
    if len(counts) not in (1, 2, 4, 8) or len(values) > 2:
        raise NoText("no talk has so many regions and numbers")
    if any([number < 0 for number in counts + values]):
        raise NoText("below 0")
    return counts, values


def read_book(text, *, deep=DEEP):
    """The talk and the sayings that are written."""
    _check_text(text)
    first, *lines = text.split("\n")
    return read_talk(first), tuple([read_saying(line, deep=deep) for line in lines])
