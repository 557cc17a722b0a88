"""Quays that are kept: ships come and leave, each by its name."""

from berthrow.checks import check_quay, is_from_to, is_name
from berthrow.errors import NoName, NoRoom, NoShip, NoWish, Taken
from berthrow.rounds import first_free_round
from berthrow.wishes import first_free


class Quay:
    """A straight quay."""

    def __init__(self, berths):
        """A quay of so many berths, without ships."""
        check_quay(berths)
        self._berths = berths
        # Wish and berth of each ship by its name, in the order of coming.
        self._ships = {}

    def come(self, name, wish):
        """Lets a ship come: the berth that it takes."""
        _check_name(name)
        if name in self._ships:
            raise Taken("a ship of that name is there")
        if not is_from_to(1, self._berths, wish):
            raise NoWish("a wish is the number of a berth of the quay")
        berth = self._first_free(self._held(), wish)
        if berth is None:
            raise NoRoom("the ship finds no free berth")
        self._ships[name] = (wish, berth)
        return berth

    def leave(self, name):
        """Lets a ship go: the moves of the others, in the order of coming."""
        self._check_there(name)
        del self._ships[name]
        held = [False] * (self._berths + 1)
        moves = []
        for other, wish, ahead in self.all_ships():
            # Without the one that goes, each other still finds a berth.
            now = self._first_free(held, wish)
            held[now] = True
            self._ships[other] = (wish, now)
            if now != ahead:
                moves.append((other, ahead, now))
        return moves

    def where(self, name):
        """The berth of a ship."""
        self._check_there(name)
        return self._ships[name][1]

    def all_ships(self):
        """Name, wish and berth of each ship, in the order of coming."""
        return [(name, wish, berth) for name, (wish, berth) in self._ships.items()]

    def free_ones(self):
        """The free berths, rising."""
        held = self._held()
        return [berth for berth in range(1, self._berths + 1) if not held[berth]]

    def size(self):
        """How many berths there are in all."""
        return self._berths

    def kind(self):
        """The word for a quay of this kind."""
        return "quay"

    def _first_free(self, held, wish):
        """The berth that a ship with that wish takes, or None."""
        return first_free(held, wish)

    def _held(self):
        """Whether a ship lies there, berth by berth."""
        held = [False] * (self._berths + 1)
        for _, berth in self._ships.values():
            held[berth] = True
        return held

    def _check_there(self, name):
        """Refuses what is no name, then that of no ship."""
        _check_name(name)
        if name not in self._ships:
            raise NoShip("no ship of that name is there")


class Round(Quay):
    """A round quay, where the first berth is behind the last one, too."""

    def __init__(self, berths):
        """A quay of so many berths, without ships."""
        Quay.__init__(self, berths)

    def come(self, name, wish):
        """Lets a ship come: the berth that it takes."""
        return super().come(name, wish)

    def leave(self, name):
        """Lets a ship go: the moves of the others, in the order of coming."""
        return super().leave(name)

    def where(self, name):
        """The berth of a ship."""
        return super().where(name)

    def all_ships(self):
        """Name, wish and berth of each ship, in the order of coming."""
        return super().all_ships()

    def free_ones(self):
        """The free berths, rising."""
        return super().free_ones()

    def size(self):
        """How many berths there are in all."""
        return super().size()

    def kind(self):
        """The word for a quay of this kind."""
        return "round"

    def _first_free(self, held, wish):
        """The berth that a ship with that wish takes, or None."""
        return first_free_round(held, wish)


def _check_name(name):
    """Refuses what is no name of a ship."""
    if not is_name(name):
        raise NoName("a name is a text of 1 to 8 letters a to z")
