"""Values for the tests that are no part, no pair, no text and no works."""


class Hostile:
    """A value that lets nobody compare, hash, measure, walk or show it."""

    def refuse(self, *rest):
        raise RuntimeError("a foreign value was asked for something")

    __eq__ = __ne__ = __hash__ = __bool__ = __len__ = __iter__ = refuse
    __contains__ = __getitem__ = __str__ = __repr__ = __lt__ = __gt__ = refuse
    __int__ = __index__ = __add__ = __radd__ = __format__ = refuse


class Agreeing:
    """A value that says that it equals everything; it has no hash."""

    def __eq__(self, other):
        return True


def nested(depth):
    """A tuple that is nested so deep."""
    value = ()
    for _ in range(depth - 1):
        value = (value,)
    return value


def strange_values():
    """New values of many kinds, among them no string and no tuple of strings."""
    return [
        None, True, False, 0, 1, -1, 10 ** 79, b"a", b"a b", bytearray(b"a"),
        [], [[]], ["a"], ["a", "b"], [("a", "b")], (), ((),), nested(100), {}, {"a": "b"},
        set(), {"a"}, frozenset(["a"]), range(2), iter("ab"), iter(()), (sign for sign in "ab"),
        object(), Hostile(), Agreeing(), (Hostile(),), (Agreeing(),), [Hostile()],
        str, tuple, int, len, lambda: "a", ValueError("a"), Ellipsis, NotImplemented,
    ]


def catch(case, error, call):
    """The error that this call raises, which must be of this very class."""
    with case.assertRaises(error) as caught:
        call()
    case.assertIs(type(caught.exception), error)
    return caught.exception
