"""Ships that come to a round quay, where the first berth is behind the last one."""

from berthrow.checks import check_wishes, is_number
from berthrow.errors import NoCount, NoWishes, TooMany
from berthrow.wishes import first_free


def first_free_round(held, wish):
    """The first berth from the wish on, round the quay, that is not held, or None."""
    berth = first_free(held, wish)
    if berth is None:
        return first_free(held, 1)
    return berth


def placed_round(berths, wishes):
    """The berths of the ships."""
    check_wishes(berths, wishes)
    if len(wishes) > berths:
        raise TooMany("there are more ships than berths")
    held = [False] * (berths + 1)
    found = []
    for wish in wishes:
        berth = first_free_round(held, wish)
        held[berth] = True
        found.append(berth)
    return found


def left_over(berths, wishes):
    """The free berths, rising."""
    found = placed_round(berths, wishes)
    return [berth for berth in range(1, berths + 1) if berth not in found]


def turned(berths, wishes, by):
    """The wishes, each so many berths further round."""
    check_wishes(berths, wishes)
    if not is_number(by):
        raise NoCount("wishes are turned by a number")
    return [(wish - 1 + by) % berths + 1 for wish in wishes]


def turning(berths, wishes):
    """By which number the wishes are to be turned so that the last berth is left."""
    check_wishes(berths, wishes)
    if len(wishes) != berths - 1:
        raise NoWishes("there is one wish less than there are berths")
    # The left berth turns as the wishes do, so it must come to the last one.
    return berths - left_over(berths, wishes)[0]
