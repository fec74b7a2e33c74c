"""Values that several tests share."""

from collections import namedtuple
from math import gcd

Pair = namedtuple("Pair", ["upper", "lower"])


class Plain:
    """An object of an own class."""


class Unshowable:
    """An object that can be neither shown, nor compared, nor tested, nor hashed."""

    __hash__ = None

    def fail(self, *rest):
        raise RuntimeError("this object must not be asked")

    __repr__ = __str__ = __eq__ = __lt__ = __gt__ = __bool__ = __len__ = __iter__ = fail


class LikeATuple:
    """An object that is no tuple, but has a length and items as a tuple has."""

    def __init__(self, *items):
        self.items = items

    def __len__(self):
        return len(self.items)

    def __iter__(self):
        return iter(self.items)

    def __getitem__(self, at):
        return self.items[at]

    def __eq__(self, other):
        return True


class LikeAnInteger:
    """An object that is no integer, but can be used as an index."""

    def __index__(self):
        return 2

    def __eq__(self, other):
        return True


def all_fractions():
    """Return all fractions."""
    return [(a, b) for b in range(2, 31) for a in range(1, b) if gcd(a, b) == 1]


def no_tuples():
    """Return values of many kinds that are no tuples."""
    return [
        None, True, False, 0, 1, 2, -3, 10 ** 5000, 2j, "", "2/3", "23", b"", b"\x02\x03", bytearray(b"\x02\x03"),
        [], [2, 3], [2, 6], {}, {2: 3, 3: 6}, {2, 3}, frozenset((2, 3)), range(2, 4), iter((2, 3)), slice(2, 3),
        int, tuple, len, gcd, NotImplemented, ..., ValueError("2"),
        Plain(), Plain, Unshowable(), LikeATuple(2, 3), LikeAnInteger(),
    ]


def no_integers():
    """Return values of many kinds that are no integers."""
    return [
        None, True, False, 2.0, 0.5, float("nan"), 2j, "", "2", "3", b"3", (), (3,), (2, 3), [], [3], {}, {3},
        range(3), Plain(), Unshowable(), LikeATuple(2, 3), LikeAnInteger(),
    ]


def wrong_numbers(least, greatest):
    """Return values of many kinds that are no integers from least to greatest."""
    wrong = no_tuples() + no_integers() + [-(10 ** 5000), -greatest, -least, -1, 0]
    wrong += [least - 2, least - 1, greatest + 1, greatest + 2, 10 * greatest]
    # Nothing is asked for floating point numbers, and some of the integers above are right ones.
    return [
        value for value in wrong
        if not isinstance(value, float) and not (type(value) is int and least <= value <= greatest)
    ]


def changeable_values():
    """Return values that can be changed, or that hold one that can, of which none is a fraction or an integer."""
    return [[2, 3], [12], [], {2: 3}, {2, 3}, bytearray(b"\x02\x03"), ([2], 3), (2, [3]), ({}, {}), ([2],)]


def wrong_fractions():
    """Return values of many kinds that are no fractions."""
    wrong = no_tuples()
    wrong += [(), (2,), (2, 3, 5), (1, 2, 3, 4), ((2, 3),), ((2, 3), (2, 3)), ((1, 2), 3), (1, (2, 3)), (None, None)]
    wrong += [(0, 1), (0, 2), (0, 30), (1, 1), (2, 2), (30, 30), (3, 2), (30, 29), (31, 30), (1, 0), (0, 0)]
    wrong += [(-1, 2), (1, -2), (-1, -2), (-2, 3), (1, 31), (2, 31), (30, 31), (1, 32), (1, 100), (1, 10 ** 5000)]
    wrong += [(2, 4), (2, 6), (3, 6), (6, 9), (15, 30), (28, 30), (10, 25), (10 ** 5000, 3), (-(10 ** 5000), 3)]
    for value in no_integers():
        wrong += [(value, 3), (1, value)]
    return wrong


def sample_sums():
    """Return sums of at most 12 parts from 2 to 9999."""
    return [
        (), (2,), (9999,), (2, 3), (2, 6), (2, 9999), (9998, 9999), (2, 3, 6), (2, 3, 4), (3, 4, 12), (4, 18, 468),
        (10, 15, 100), tuple(range(2, 14)), tuple(range(9988, 10000)), (2, 3, 7, 43, 1807),
        (2, 4, 8, 16, 32, 64, 128, 256, 512, 1024, 2048, 4096),
    ]


def long_sums():
    """Return sums that have more than 12 parts, or parts above 9999."""
    return [
        (10000,), (2, 10000), (9999, 10000), (2, 10 ** 5000), tuple(range(2, 15)), tuple(range(2, 103)),
        tuple(range(9987, 10000)), tuple(range(9988, 10001)), tuple(range(9990, 10001)),
    ]


def no_sums():
    """Return values of many kinds that are no sums."""
    wrong = no_tuples()
    wrong += [(1,), (0,), (-2,), (1, 2), (0, 2), (-1, 2), (-3, -2), (-3, 2), (1, 2, 3), (-(10 ** 5000),)]
    wrong += [(2, 2), (6, 6), (2, 3, 3), (2, 2, 3), (3, 2), (6, 2), (2, 6, 3), (3, 2, 6), (2, 3, 1), (2, 3, 0)]
    wrong += [((),), ((2, 3),), ((2,), (3,)), (2, (3, 6)), ((2, 3), 6), ([2], [3])]
    for value in no_integers():
        wrong += [(value,), (2, value), (value, 6), (2, value, 6)]
    return wrong
