"""What is a number, a quay, wishes for it and a name."""

from berthrow.errors import NoQuay, NoWishes

MOST = 400
LONGEST = 8


def is_number(thing):
    """Whether it is a whole number."""
    # Asking for the very kind keeps True and False out, and runs nothing of
    # the thing itself, so that whatever is handed in can be refused.
    return type(thing) is int


def is_from_to(low, high, thing):
    """Whether it is a number from low to high."""
    return is_number(thing) and low <= thing <= high


def is_row(thing):
    """Whether it is a list or a tuple."""
    return type(thing) is list or type(thing) is tuple


def is_name(thing):
    """Whether it is a name of a ship."""
    if type(thing) is not str or not 1 <= len(thing) <= LONGEST:
        return False
    for sign in thing:
        if not "a" <= sign <= "z":
            return False
    return True


def check_quay(berths):
    """Refuses what is no number of berths."""
    if not is_from_to(1, MOST, berths):
        raise NoQuay("a quay has from 1 to 400 berths")


def check_wishes(berths, wishes):
    """Refuses what is no quay, then what is no wishes for it."""
    check_quay(berths)
    if not is_row(wishes):
        raise NoWishes("wishes are a list or a tuple")
    if len(wishes) > MOST:
        raise NoWishes("there are at most 400 wishes")
    for wish in wishes:
        if not is_from_to(1, berths, wish):
            raise NoWishes("a wish is the number of a berth of the quay")
