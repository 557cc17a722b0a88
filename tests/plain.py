"""What the tests share: plain walks to compare with, lists, and things to refuse."""

from decimal import Decimal
from fractions import Fraction
from itertools import product

from berthrow.errors import BerthError


def walk(berths, wishes, is_round=False):
    """The ships' berths, found berth by berth."""
    free = list(range(1, berths + 1))
    found = []
    for wish in wishes:
        way = [berth for berth in free if berth >= wish]
        if is_round:
            way = way + [berth for berth in free if berth < wish]
        found.append(way[0] if way else None)
        if way:
            free.remove(way[0])
    return found


def away(berths, wishes):
    """How many ships go away."""
    return walk(berths, wishes).count(None)


def all_lists(berths, ships):
    """All lists of so many wishes, in the order of Python."""
    return [list(row) for row in product(range(1, berths + 1), repeat=ships)]


def good_lists(berths, ships):
    return [row for row in all_lists(berths, ships) if away(berths, row) == 0]


def mixed(berths, ships, seed):
    """A list of wishes that is the same on each run and follows no plain pattern."""
    state = seed * 7919 + berths * 31 + ships
    out = []
    for _ in range(ships):
        state = (state * 1103515245 + 12345) % 2 ** 31
        out.append((state >> 8) % berths + 1)
    return out


class Alike:
    """Is equal to all, below and above all, and can be asked as a number or a list."""

    def __eq__(self, other):
        return True

    __lt__ = __le__ = __gt__ = __ge__ = __eq__
    __hash__ = None

    def __index__(self):
        return 1

    __int__ = __index__

    def __len__(self):
        return 1

    def __iter__(self):
        return iter([1])

    def __getitem__(self, at):
        return [1][at]


class Unlike:
    """Answers no comparison at all, but with an error."""

    def __eq__(self, other):
        raise RuntimeError("compared")

    __lt__ = __le__ = __gt__ = __ge__ = __ne__ = __len__ = __iter__ = __eq__
    __hash__ = None


def odd_things():
    """Things that are neither a number nor a list or tuple."""
    return [
        True, False, None, "", "1", "11", b"1", b"\x01", 1.0, 2.5, float("nan"), float("inf"),
        1j, Fraction(1), Decimal(1), {}, {1: 1}, {1}, frozenset([1]), range(1, 2), object(),
        Alike(), Unlike(), int, list, len, lambda: 1, iter([1]), (n for n in [1]),
        bytearray(b"\x01"), ValueError("1"), ...,
    ]


def no_numbers():
    return odd_things() + [[], [1], (1,), [[1]]]


def no_quays():
    return no_numbers() + [0, -1, -400, 401, 402, 800, 10 ** 60, -10 ** 60]


def no_wishes(berths):
    """Things that are no wishes for a quay of so many berths."""
    bad = no_numbers() + [0, -1, berths + 1, 401, 10 ** 60, -10 ** 60]
    out = odd_things() + [0, 1, [1] * 401, (1,) * 401, [1] * 1000]
    for thing in bad:
        out = out + [[thing], (thing,), [1, thing], [thing, 1], [1] * 399 + [thing]]
    return out


def in_rows(bad, rows):
    """Lists and tuples of the rows, each with one of its places taken by what is bad there."""
    out = []
    for row in rows:
        for at in range(len(row)):
            for thing in bad:
                changed = list(row)
                changed[at] = thing
                out = out + [changed, tuple(changed)]
    return out


def no_full_rows():
    out = odd_things() + [0, 1, 400, [], (), [1] * 401, (1,) * 401, [1] * 1000]
    out = out + in_rows(no_numbers() + [0, -1, 10 ** 60, -10 ** 60], [[1], [1, 1, 1]])
    # A wish beyond the berths, and ships that go away.
    out = out + [[2], (1, 3), [4, 1, 1], [2, 2], (3, 3, 1), [2, 2, 2], [1, 3, 3], [400, 400] + [1] * 398]
    return out + [[1] * 399 + [True], [1] * 399 + [401], [2] * 400]


def no_trees():
    out = odd_things() + [0, 1, 400, [], (), [0] * 401, (0,) * 401, [0] * 1000]
    out = out + in_rows(no_numbers() + [-1, -2, 10 ** 60, -10 ** 60], [[0], [0, 0, 0]])
    # Knots beyond the last one.
    out = out + [[2], (0, 3), [0, 0, 4], (4, 0, 0), [0] * 399 + [401], [0] * 399 + [False]]
    # A knot below itself, two below each other, longer rings, and what hangs on them.
    out = out + [[1], (0, 2), [1, 0], [2, 1], (0, 3, 2), [2, 3, 1], [0, 3, 4, 2], [2, 3, 1, 0, 3]]
    return out + [[400] + list(range(1, 400)), [0] + [400] + list(range(2, 400))]


def no_orders():
    out = odd_things() + [0, 1, 400, [], (), list(range(401)), tuple(range(401)), [0] * 401]
    out = out + in_rows(no_numbers() + [-1, -2, 10 ** 60, -10 ** 60], [[0], [0, 1, 2], [2, 1, 0]])
    # One that is no ship of so many, and one that comes twice, so that another lacks.
    out = out + [[1], (2,), [0, 2], (1, 2), [1, 2, 3], [0, 0], (1, 1), [0, 1, 1], [2, 0, 2], [0, True]]
    return out + [list(range(1, 401)), list(range(399)) + [398], list(range(399)) + [400], [0] * 400]


def no_names():
    out = odd_things() + [0, 1, 97, [], ["a"], ("a",), {"a": 1}, {"a"}, b"a", bytearray(b"a")]
    out = out + ["A", "Ab", "aB", "abcdefghi", "a" * 9, "a" * 1000, " ", "a b", " a", "a ", "a\n", "\n", "\na"]
    return out + ["a1", "1a", "a-b", "a_b", "`", "{", "a{", "`a", "@", "[", ".", "a.", "abcdefg\n", "abcdefgH"]


def no_berths(berths):
    """Things that are no number from 1 to that of the berths."""
    return no_numbers() + [0, -1, berths + 1, 401, 10 ** 60, -10 ** 60]


def name_of(number):
    """The name of the ship of that number, another one for each below 676, of two to eight letters."""
    letters = "qwertyuiopasdfghjklzxcvbnm"
    return (letters[number % 26] + letters[number // 26 % 26] + "abcdef")[:number % 7 + 2]


def told(function, *args):
    """What is told of a call: the refusal's class, or the answer with its class."""
    try:
        answer = function(*args)
    except BerthError as why:
        return type(why)
    return type(answer), answer
