"""The good wishes of so many ships for a quay, in the order of Python."""

from berthrow.checks import MOST, check_quay, is_from_to
from berthrow.errors import NoCount, NoWishes
from berthrow.wishes import is_good


def how_many(berths, ships):
    """How many good wishes of so many ships there are."""
    check_quay(berths)
    if not is_from_to(0, MOST, ships):
        raise NoCount("there are from 0 to 400 ships")
    if ships > berths:
        return 0
    if ships == 0:
        return 1
    many = berths + 1 - ships
    for _ in range(ships - 1):
        many = many * (berths + 1)
    return many


def first_row(berths, ships):
    """The first good wishes of so many ships."""
    _check_ships(berths, ships)
    return (1,) * ships


def last_row(berths, ships):
    """The last good wishes of so many ships."""
    _check_ships(berths, ships)
    return tuple(range(berths, berths - ships, -1))


def next_row(berths, wishes):
    """The good wishes that come next behind these, or None."""
    if not is_good(berths, wishes):
        raise NoWishes("only good wishes have a next row")
    row = tuple(wishes)
    for ship in reversed(range(len(row))):
        # Lower wishes never crowd a quay that higher ones don't: so a wish
        # that can't go up by one can't go up at all, and whatever stands
        # ahead of it, the ships behind it may all wish berth 1.
        start = row[:ship] + (row[ship] + 1,)
        if row[ship] < berths and is_good(berths, start):
            return start + (1,) * (len(row) - len(start))
    return None


def _check_ships(berths, ships):
    """Refuses what is no quay, then what is no number of ships that all find a berth."""
    check_quay(berths)
    if not is_from_to(0, berths, ships):
        raise NoCount("there are from none to as many ships as berths")
