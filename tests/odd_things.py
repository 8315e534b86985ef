"""Things of many kinds, to be handed in where anything may be."""


class Sullen:
    """An object that refuses to be compared, measured or shown."""

    def __eq__(self, other):
        raise RuntimeError("compared")

    def __hash__(self):
        raise RuntimeError("hashed")

    def __len__(self):
        raise RuntimeError("measured")

    def __bool__(self):
        raise RuntimeError("tested")

    def __repr__(self):
        raise RuntimeError("shown")


def nested(kind, depth):
    """A thing of so many lists, or tuples, within one another."""
    thing = kind()
    for _ in range(depth - 1):
        thing = kind([thing])
    return thing


def odd_things():
    """A new list of things, none of them a saying, a mark, or a place, a row or a part of a machine of few places."""
    return [
        None, True, False, -1, 12, 10 ** 30, -(10 ** 30), 1.5, 0.0, float("nan"), 2j,
        "A", "seven letters", "abcdefg", "a b", "a\n", "\n", " ", "0", "a1", "~", "a" * 100000,
        b"", b"a", bytearray(b"a"), (), (None,), (True,), (0,), ("a",), ("yes", "yes"), (("yes",),), ([],), ({},),
        [None], ["A"], [[]], [()], [{}], [["a"]], ["yes", 0], {}, {"yes": 1}, {0: 0}, set(), {1.5}, frozenset(),
        range(1), object(), len, str, iter([]), Sullen(), (Sullen(),), [Sullen()],
        nested(list, 99), nested(tuple, 99), [nested(tuple, 90)], (nested(list, 90),),
    ]
