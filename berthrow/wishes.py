"""Ships that come to a straight quay, each with its wish."""

from berthrow.checks import MOST, check_wishes, is_row
from berthrow.errors import NoWishes


def first_free(held, wish):
    """The first berth from the wish on that is not held, None where there is none."""
    for berth in range(wish, len(held)):
        if not held[berth]:
            return berth
    return None


def placed(berths, wishes):
    """The berths of the ships, None of one that goes away."""
    check_wishes(berths, wishes)
    held = [False] * (berths + 1)
    found = []
    for wish in wishes:
        berth = first_free(held, wish)
        if berth is not None:
            held[berth] = True
        found.append(berth)
    return found


def taken(berths, wishes):
    """The berths taken at last, rising."""
    return sorted([berth for berth in placed(berths, wishes) if berth is not None])


def gone_on(berths, wishes):
    """How many berths behind their wishes the ships lie, all together."""
    found = placed(berths, wishes)
    return sum([berth - wish for wish, berth in zip(wishes, found) if berth is not None])


def is_good(berths, wishes):
    """Whether no ship goes away."""
    return crowded(berths, wishes) is None


def crowded(berths, wishes):
    """The last berth from which on more ships wish than there are berths, or None."""
    check_wishes(berths, wishes)
    tally = [0] * (berths + 1)
    for wish in wishes:
        tally[wish] += 1
    many = 0
    for berth in range(berths, 0, -1):
        many += tally[berth]
        if many > berths - berth + 1:
            return berth
    return None


def check_full_row(wishes):
    """Refuses what is no good wishes of as many ships as berths."""
    # The length comes first: as a number of berths it would be refused as no quay.
    if not is_row(wishes) or not 1 <= len(wishes) <= MOST:
        raise NoWishes("a full row is a list or a tuple of 1 to 400 wishes")
    if not is_good(len(wishes), wishes):
        raise NoWishes("of a full row no ship goes away")
