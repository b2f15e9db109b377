"""Things that several tests hand in."""


def nested(times):
    """A tuple nested so many times."""
    thing = ("=", "a", "b")
    for _ in range(times):
        thing = ("not", thing)
    return thing


# Of each built-in sort something that is no whole number; many cannot be hashed.
NO_WHOLES = [
    True, False, None, "", "1", b"1", 1.0, 0.0, float("nan"), float("inf"), 1j,
    (), (1,), (2, 4), [], [1], {}, {1: 1}, set(), {1}, frozenset([1]),
    bytearray(b"1"), range(3), slice(1), object(), int, len, Ellipsis, NotImplemented,
    ([],), ({},), nested(5000),
]

GREAT = 10 ** 59 + 7
