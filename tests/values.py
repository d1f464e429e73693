"""Values of many kinds, for tests of what a call does with any value."""


class Hostile:
    """An object that fails whenever it is looked at."""

    def _fail(self, *told):
        raise RuntimeError("this object was looked at")

    __eq__ = __ne__ = __lt__ = __hash__ = __bool__ = __len__ = _fail
    __iter__ = __contains__ = __getitem__ = __str__ = __repr__ = _fail


class Yes:
    """An object that claims to be equal to everything."""

    def __eq__(self, other):
        return True

    def __ne__(self, other):
        return False

    __hash__ = None


def nested(depth):
    """A list within lists, so many deep."""
    value = []
    for _ in range(depth - 1):
        value = [value]
    return value


NO_STRINGS = [
    0, 1, -1, 2, 5, 10 ** 80 - 1, True, False, None, b"", b"a", b"islands a b", [], ["a", "b"],
    (), ("a",), ("a", "b"), (("a", "b"), "c"), {}, {"a": "b"}, {"a", "b"}, frozenset("ab"), range(2),
    object(), object, len, Hostile(), Hostile, Yes(), nested(99), iter("ab"), ValueError("a"), ...,
]
WORDS = ["", "a", "ab", "islands", "islands a b", "x" * 2000, "A", "a b", "a\n", "0", " "]
ANYTHING = NO_STRINGS + WORDS
