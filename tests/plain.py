"""What the tests share: plain walks to compare with, lists, and things to refuse."""

from decimal import Decimal
from fractions import Fraction
from itertools import product

from berthrow.errors import BerthError


def walk(berths, wishes, is_round=False):
    """The ships' berths, found berth by berth."""
    free = list(range(1, berths + 1))
    found = []
    for wish in wishes:
        way = [berth for berth in free if berth >= wish]
        if is_round:
            way = way + [berth for berth in free if berth < wish]
        found.append(way[0] if way else None)
        if way:
            free.remove(way[0])
    return found


def away(berths, wishes):
    """How many ships go away."""
    return walk(berths, wishes).count(None)


def all_lists(berths, ships):
    """All lists of so many wishes, in the order of Python."""
    return [list(row) for row in product(range(1, berths + 1), repeat=ships)]


def good_lists(berths, ships):
    return [row for row in all_lists(berths, ships) if away(berths, row) == 0]


def mixed(berths, ships, seed):
    """A list of wishes that is the same on each run and follows no plain pattern."""
    state = seed * 7919 + berths * 31 + ships
    out = []
    for _ in range(ships):
        state = (state * 1103515245 + 12345) % 2 ** 31
        out.append((state >> 8) % berths + 1)
    return out


class Alike:
    """Is equal to all, below and above all, and can be asked as a number or a list."""

    def __eq__(self, other):
        return True

    __lt__ = __le__ = __gt__ = __ge__ = __eq__
    __hash__ = None

    def __index__(self):
        return 1

    __int__ = __index__

    def __len__(self):
        return 1

    def __iter__(self):
        return iter([1])

    def __getitem__(self, at):
        return [1][at]


class Unlike:
    """Answers no comparison at all, but with an error."""

    def __eq__(self, other):
        raise RuntimeError("compared")

    __lt__ = __le__ = __gt__ = __ge__ = __ne__ = __len__ = __iter__ = __eq__
    __hash__ = None


def odd_things():
    """Things that are neither a number nor a list or tuple."""
    return [
        True, False, None, "", "1", "11", b"1", b"\x01", 1.0, 2.5, float("nan"), float("inf"),
        1j, Fraction(1), Decimal(1), {}, {1: 1}, {1}, frozenset([1]), range(1, 2), object(),
        Alike(), Unlike(), int, list, len, lambda: 1, iter([1]), (n for n in [1]),
        bytearray(b"\x01"), ValueError("1"), ...,
    ]


def no_numbers():
    return odd_things() + [[], [1], (1,), [[1]]]


def no_quays():
    return no_numbers() + [0, -1, -400, 401, 402, 800, 10 ** 60, -10 ** 60]


def no_wishes(berths):
    """Things that are no wishes for a quay of so many berths."""
    bad = no_numbers() + [0, -1, berths + 1, 401, 10 ** 60, -10 ** 60]
    out = odd_things() + [0, 1, [1] * 401, (1,) * 401, [1] * 1000]
    for thing in bad:
        out = out + [[thing], (thing,), [1, thing], [thing, 1], [1] * 399 + [thing]]
    return out


def told(function, *args):
    """What is told of a call: the refusal's class, or the answer with its class."""
    try:
        answer = function(*args)
    except BerthError as why:
        return type(why)
    return type(answer), answer
