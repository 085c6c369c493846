"""The one text of each term, sum, saying, world and book."""

from countfold.names import figures

_TERM_SIGNS = {"and": " & ", "or": " + ", "but": " - "}
_SAYING_SIGNS = {"atmost": " <= ", "equal": " = ", "parts": " | ", "within": " in ", "same": " is "}
_JOINS = {"both": " and ", "either": " or "}


def term_text(term):
    """The text of a term."""
    if isinstance(term, str):
        return term
    word = term[0]
    if word == "none":
        return "{}"
    if word == "all":
        return "{*}"
    if word == "not":
        return "!" + term_text(term[1])
    return "(" + term_text(term[1]) + _TERM_SIGNS[word] + term_text(term[2]) + ")"


def sum_text(addends):
    """The text of a sum."""
    if not addends:
        return "."
    return " + ".join([_addend_text(addend) for addend in addends])


def _addend_text(addend):
    text = figures(addend[1])
    if addend[0] == "lot":
        return text
    if addend[0] == "num":
        return text + " " + addend[2]
    return text + " #" + term_text(addend[2])


def saying_text(saying):
    """The text of a saying, plain or broad."""
    # Not by calls within calls: a saying that is told can be deeper than they may be.
    written = []
    waiting = [saying]
    while waiting:
        part = waiting.pop()
        if isinstance(part, str):
            written.append(part)
        else:
            waiting.extend(_pieces(part)[::-1])
    return "".join(written)


def _pieces(saying):
    """The texts and the sayings, in order, that make the text of a saying."""
    word = saying[0]
    if word == "not":
        return ["~", saying[1]]
    if word in _JOINS:
        return ["(", saying[1], _JOINS[word], saying[2], ")"]
    if word in ("some", "all"):
        return [word + " " + saying[1] + " ", saying[2]]
    return ["[" + _side_text(word, saying[1]) + _SAYING_SIGNS[word] + _side_text(word, saying[2]) + "]"]


def _side_text(word, thing):
    """The text of what stands behind a word of sums or terms."""
    if word in ("within", "same"):
        return term_text(thing)
    return figures(thing) if isinstance(thing, int) else sum_text(thing)


def world_text(world):
    """The text of a world."""
    return ";".join([",".join([figures(number) for number in part]) for part in world])


def book_text(talk, sayings):
    """The text of a book: the talk and the sayings, a line for each."""
    return "\n".join([str(talk)] + [saying_text(saying) for saying in sayings])
