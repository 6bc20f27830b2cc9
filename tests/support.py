"""What several tests share: packages written in short, and values that are of no kind the program knows."""

import unittest


class Hostile:
    """A value that raises whatever is done with it."""

    def _refuse(self, *rest):
        raise RuntimeError("the program touched a value that it must not touch")

    __eq__ = __ne__ = __hash__ = __len__ = __iter__ = __getitem__ = __bool__ = __str__ = __repr__ = _refuse


class HostileText(str):
    """A text of a derived class that raises when it is looked at."""

    def _refuse(self, *rest):
        raise RuntimeError("the program trusted a derived class")

    __eq__ = __ne__ = __hash__ = __len__ = __iter__ = __getitem__ = split = startswith = _refuse


class HostileTuple(tuple):
    """A tuple of a derived class that raises when it is looked at."""

    def _refuse(self, *rest):
        raise RuntimeError("the program trusted a derived class")

    __eq__ = __ne__ = __hash__ = __len__ = __iter__ = __getitem__ = _refuse


def no_texts():
    """Values that are neither texts nor tuples; a new list each time."""
    return [None, True, False, 0, 1, -5, 1.0, 1j, b"1.0.0", b"*", ["1.0.0"], ["*"], [], {}, {"*": 1}, set(),
            frozenset(), bytearray(b"*"), object(), str, len, range(3), Hostile(), HostileText("1.0.0")]


def not_checkable():
    """Values that are no packages, no project and no lock, whatever the rest of the call is."""
    return no_texts() + ["", "a", "abc", HostileTuple()]


def package(name, version, dependencies="", peers=""):
    """A manifest; dependencies and peers in short: "core ^1.0.0, plug *"."""
    return (name, version, wishes(dependencies), wishes(peers))


def wishes(text):
    """Dependencies in short: a name, a space and a range, separated by commas."""
    return tuple(tuple(part.strip().split(" ", 1)) for part in text.split(",") if part.strip())


def nonsense():
    """Values that are no shelf, no instance, no link, no index and no name; a new list each time."""
    values = [value for value in not_checkable() if type(value) is not int]
    return values + [-1, 10 ** 30, 0.0, HostileTuple(((), ())), HostileText("core"), float("nan"), ("nowhere",)]


def replaced(value, at, new):
    """A nested tuple with another value at a place that is told by a tuple of indices."""
    if not at:
        return new
    return value[:at[0]] + (replaced(value[at[0]], at[1:], new),) + value[at[0] + 1:]


def places(value, at=()):
    """All places in a nested tuple."""
    yield at
    if type(value) is tuple:
        for index, item in enumerate(value):
            yield from places(item, at + (index,))


class CheckedCase(unittest.TestCase):
    """Tests that ask for one error and no other one."""

    def raises(self, error, function, *arguments):
        """The error that a call raises, which is of just this class."""
        with self.assertRaises(error) as caught:
            function(*arguments)
        self.assertIs(type(caught.exception), error)
        return caught.exception
