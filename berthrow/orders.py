"""The orders in which ships lie, and the full rows that lead to them."""

from berthrow.checks import MOST, is_from_to, is_row
from berthrow.errors import NoOrder
from berthrow.wishes import check_full_row, placed


def lies(wishes):
    """The order to which a full row leads."""
    check_full_row(wishes)
    order = [0] * len(wishes)
    for ship, berth in enumerate(placed(len(wishes), wishes)):
        order[berth - 1] = ship
    return tuple(order)


def reaches(order):
    """Ship by ship from where to where its wish may be, that the order comes about."""
    _check_order(order)
    pairs = [(0, 0)] * len(order)
    for place, ship in enumerate(order):
        first = place
        while first > 0 and order[first - 1] < ship:
            first -= 1
        pairs[ship] = (first + 1, place + 1)
    return pairs


def rows_to(order):
    """How many full rows lead to the order."""
    many = 1
    for low, high in reaches(order):
        # The ships wish each for itself, so their choices multiply.
        many = many * (high - low + 1)
    return many


def _check_order(order):
    """Refuses what is no order."""
    if not is_row(order) or not 1 <= len(order) <= MOST:
        raise NoOrder("an order is a list or a tuple of 1 to 400 ships")
    for ship in order:
        if not is_from_to(0, len(order) - 1, ship):
            raise NoOrder("the ships of an order are 0, 1 and so on")
    if len(set(order)) < len(order):
        raise NoOrder("each ship is in an order once")
