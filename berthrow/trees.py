"""Full rows and their trees, each told as the knots above knots 1, 2 and so on."""

from berthrow.checks import MOST, is_from_to, is_row
from berthrow.errors import NoTree
from berthrow.wishes import check_full_row


def tree_of(wishes):
    """The tree of a full row."""
    check_full_row(wishes)
    wishing = [[] for _ in range(len(wishes) + 1)]
    for ship, wish in enumerate(wishes):
        wishing[wish].append(ship + 1)
    come_to = [0]
    tree = [0] * len(wishes)
    for berth in range(1, len(wishes) + 1):
        # So many are come to by now: each berth ahead is taken by a ship that
        # wishes none behind it.
        above = come_to[berth - 1]
        for knot in wishing[berth]:
            tree[knot - 1] = above
            come_to.append(knot)
    return tuple(tree)


def wishes_of(tree):
    """The full row of a tree."""
    _check_knots(tree)
    below = [[] for _ in range(len(tree) + 1)]
    for place, above in enumerate(tree):
        below[above].append(place + 1)
    come_to = [0]
    wishes = [0] * len(tree)
    berth = 0
    while berth < len(come_to):
        above = come_to[berth]
        berth += 1
        for knot in below[above]:
            wishes[knot - 1] = berth
            come_to.append(knot)
    # Each knot is below one other, so none is come to twice: those that lack
    # are below each other, and no way from the root leads there.
    if len(come_to) <= len(tree):
        raise NoTree("all knots of a tree hang on its root")
    return tuple(wishes)


def _check_knots(tree):
    """Refuses what is no list or tuple of knots."""
    if not is_row(tree) or not 1 <= len(tree) <= MOST:
        raise NoTree("a tree is a list or a tuple of 1 to 400 knots")
    for above in tree:
        if not is_from_to(0, len(tree), above):
            raise NoTree("above a knot there is one of the tree's knots")
