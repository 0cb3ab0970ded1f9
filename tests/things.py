"""Things of many kinds that several tests hand in."""


class Grumpy:
    """An object that answers no comparison, no truth test and no question for its length."""

    def _refuse(self, *rest):
        raise AssertionError("a foreign object was asked to answer for itself")

    __eq__ = __ne__ = __lt__ = __le__ = __gt__ = __ge__ = _refuse
    __bool__ = __len__ = __hash__ = __iter__ = __getitem__ = _refuse


def no_numbers():
    return [
        None, "", "1", "one", b"", b"1", [], [1], (), (1,), {}, {1: 1}, set(), {1}, frozenset(),
        range(3), object(), object, int, len, lambda: 1, iter([1]), Grumpy(),
    ]


def no_texts():
    return [
        None, 0, 1, -1, 10 ** 60, True, False, b"", b"a", [], ["a"], (), ("a",), {}, {"a": "a"}, set(),
        {"a"}, frozenset(), range(3), object(), object, str, len, lambda: "a", iter("a"), Grumpy(),
    ]
