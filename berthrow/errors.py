"""The refusals of the program."""


class BerthError(ValueError):
    """Any refusal."""


class NoQuay(BerthError):
    """What is no number of berths of a quay."""


class NoWishes(BerthError):
    """What is no wishes for the quay, or not such as are asked for."""


class TooMany(BerthError):
    """More ships than a round quay has berths."""


class NoCount(BerthError):
    """What is no number of the kind that is asked for."""


class NoTree(BerthError):
    """What is no tree of knots."""


class NoOrder(BerthError):
    """What is no order of ships."""


class NoName(BerthError):
    """What is no name of a ship."""


class Taken(BerthError):
    """A name that a ship at the quay already has."""


class NoWish(BerthError):
    """What is no number of a berth of the quay."""


class NoRoom(BerthError):
    """A ship that finds no free berth."""


class NoShip(BerthError):
    """A name that no ship at the quay has."""


class NoText(BerthError):
    """A text of another form than that of a quay."""
