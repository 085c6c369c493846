"""Things of many kinds, to be judged: made anew for each test."""

THIRTY = 10 ** 30 - 1


def nested(deep):
    """A list so many lists deep."""
    thing = []
    for _ in range(deep - 1):
        thing = [thing]
    return thing


def no_texts():
    return [None, True, False, 0, -1, THIRTY, (), [], {}, ("a",), ["a"], {"a": 1}, nested(16)]


def no_wholes():
    return [None, True, False, "", "1", "a", (), [], {}, (1,), [1], {1: 1}, nested(16)]


def refused(test, error, call, *args, **more):
    """The error that a call raises, of just this class."""
    with test.assertRaises(error) as caught:
        call(*args, **more)
    test.assertIs(type(caught.exception), error)
    return caught.exception
