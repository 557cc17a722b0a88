"""Point 9: quays that are kept."""

import unittest
from itertools import product

from berthrow.errors import NoName, NoQuay, NoRoom, NoShip, NoWish, Taken
from berthrow.quays import Quay, Round
from plain import mixed, name_of, no_berths, no_names, no_quays, told, walk

KINDS = [Quay, Round]


class Ledger:
    """Wishes by name in the order of coming; all that is asked is laid anew."""

    def __init__(self, berths, is_round):
        self.berths = berths
        self.is_round = is_round
        self.rows = []

    def lie(self):
        found = walk(self.berths, [wish for _, wish in self.rows], self.is_round)
        return [(name, wish, berth) for (name, wish), berth in zip(self.rows, found)]

    def come(self, name, wish):
        self.rows.append((name, wish))
        berth = self.lie()[-1][2]
        if berth is None:
            self.rows.pop()
            return NoRoom
        return int, berth

    def leave(self, name):
        ahead = {other: berth for other, _, berth in self.lie()}
        self.rows = [row for row in self.rows if row[0] != name]
        moves = [(other, ahead[other], now) for other, _, now in self.lie() if ahead[other] != now]
        return list, moves

    def free(self):
        held = [berth for _, _, berth in self.lie()]
        return [berth for berth in range(1, self.berths + 1) if berth not in held]


def laid(kind, berths, rows):
    quay = kind(berths)
    for name, wish in rows:
        quay.come(name, wish)
    return quay


def shown(quay):
    return quay.kind(), quay.size(), quay.all_ships(), quay.free_ones()


def way(quay, wish, berth):
    """How many berths behind a wish a berth is, on the way of the ships of that quay."""
    if quay.kind() == "round":
        return (berth - wish) % quay.size()
    return berth - wish


class Kept(unittest.TestCase):

    def agree(self, quay, ledger):
        ships = ledger.lie()
        self.assertEqual(quay.all_ships(), ships)
        self.assertEqual(quay.free_ones(), ledger.free())
        self.assertEqual([quay.where(name) for name, _, _ in ships], [berth for _, _, berth in ships])

    def both_leave(self, quay, ledger, name):
        free = quay.free_ones()
        wishes = {other: wish for other, wish, _ in quay.all_ships()}
        answer = told(quay.leave, name)
        self.assertEqual(answer, ledger.leave(name))
        self.agree(quay, ledger)
        self.assertEqual(len(quay.free_ones()), len(free) + 1)
        self.assertIs(told(quay.where, name), NoShip)
        for other, ahead, now in answer[1]:
            self.assertGreaterEqual(way(quay, wishes[other], now), 0)
            self.assertLess(way(quay, wishes[other], now), way(quay, wishes[other], ahead))


class TestStraight(Kept):

    def test_by_hand(self):
        quay = Quay(5)
        self.assertEqual([quay.come("a", 2), quay.come("b", 2), quay.come("c", 2)], [2, 3, 4])
        self.assertEqual(quay.come("d", 1), 1)
        self.assertEqual(quay.come("e", 3), 5)
        self.assertEqual(quay.free_ones(), [])
        self.assertEqual(quay.leave("b"), [("c", 4, 3), ("e", 5, 4)])
        self.assertEqual(quay.free_ones(), [5])
        self.assertEqual(quay.all_ships(), [("a", 2, 2), ("c", 2, 3), ("d", 1, 1), ("e", 3, 4)])
        self.assertEqual(quay.leave("d"), [])
        self.assertEqual(quay.free_ones(), [1, 5])
        self.assertEqual(quay.where("e"), 4)
        self.assertEqual(quay.kind(), "quay")
        self.assertEqual(quay.size(), 5)

    def test_moves_are_told_in_the_order_of_coming(self):
        quay = laid(Quay, 6, [("z", 1), ("y", 1), ("d", 3), ("x", 1), ("a", 2)])
        self.assertEqual(quay.all_ships()[3:], [("x", 1, 4), ("a", 2, 5)])
        self.assertEqual(quay.leave("z"), [("y", 2, 1), ("x", 4, 2), ("a", 5, 4)])

    def test_a_ship_goes_away_though_a_berth_ahead_is_free(self):
        quay = laid(Quay, 3, [("a", 2), ("b", 2)])
        self.assertIs(told(quay.come, "c", 2), NoRoom)
        self.assertIs(told(quay.come, "c", 3), NoRoom)
        self.assertEqual(quay.come("c", 1), 1)
        self.assertIs(told(quay.come, "d", 1), NoRoom)

    def test_a_ship_that_found_no_room_never_came(self):
        quay = laid(Quay, 2, [("a", 2)])
        self.assertIs(told(quay.come, "b", 2), NoRoom)
        self.assertEqual(quay.leave("a"), [])
        self.assertEqual(quay.all_ships(), [])
        self.assertIs(told(quay.where, "b"), NoShip)
        self.assertEqual(quay.come("b", 2), 2)


class TestRound(Kept):

    def test_by_hand(self):
        quay = Round(4)
        self.assertEqual([quay.come("a", 4), quay.come("b", 4), quay.come("c", 4)], [4, 1, 2])
        self.assertEqual(quay.free_ones(), [3])
        self.assertEqual(quay.come("d", 1), 3)
        self.assertIs(told(quay.come, "e", 2), NoRoom)
        self.assertEqual(quay.leave("a"), [("b", 1, 4), ("c", 2, 1), ("d", 3, 2)])
        self.assertEqual(quay.all_ships(), [("b", 4, 4), ("c", 4, 1), ("d", 1, 2)])
        self.assertEqual(quay.kind(), "round")
        self.assertEqual(quay.size(), 4)

    def test_is_a_quay(self):
        self.assertTrue(issubclass(Round, Quay))
        self.assertIsInstance(Round(3), Quay)
        self.assertNotIsInstance(Quay(3), Round)


class TestBoth(Kept):

    def test_empty_quays(self):
        for kind in KINDS:
            for berths in [1, 2, 399, 400]:
                quay = kind(berths)
                self.assertEqual(quay.all_ships(), [])
                self.assertEqual(quay.free_ones(), list(range(1, berths + 1)))
                self.assertEqual(quay.size(), berths)
                self.assertIs(type(quay.size()), int)

    def test_all_departures_from_small_quays(self):
        for kind in KINDS:
            for berths in range(1, 5):
                for wishes in product(range(1, berths + 1), repeat=berths):
                    rows = list(zip("dbca", wishes))
                    for gone in range(berths):
                        quay, ledger = kind(berths), Ledger(berths, kind is Round)
                        for name, wish in rows:
                            self.assertEqual(told(quay.come, name, wish), ledger.come(name, wish))
                        if rows[gone] in ledger.rows:
                            self.both_leave(quay, ledger, rows[gone][0])
                        else:
                            self.assertIs(told(quay.leave, rows[gone][0]), NoShip)
                            self.agree(quay, ledger)

    def check_many(self, kind, berths, steps, seed):
        """Comings and departures, by turns more of these and of those."""
        quay, ledger = kind(berths), Ledger(berths, kind is Round)
        wishes = mixed(berths, steps, seed)
        marks = mixed(1000, steps, seed + 100)
        for step, (wish, mark) in enumerate(zip(wishes, marks)):
            there = [name for name, _ in ledger.rows]
            if there and mark % 10 < (7 if step // 15 % 2 else 3):
                self.both_leave(quay, ledger, there[mark // 10 % len(there)])
                continue
            # Few names, so that many come again behind their departure.
            name = name_of(mark % (berths + 3))
            if name in there:
                self.assertIs(told(quay.come, name, wish), Taken)
            else:
                self.assertEqual(told(quay.come, name, wish), ledger.come(name, wish))
            self.agree(quay, ledger)
        return quay

    def test_many_comings_and_departures(self):
        for kind in KINDS:
            for berths in range(1, 13):
                for seed in range(4):
                    quay = self.check_many(kind, berths, 120, seed)
                    self.assertEqual(quay.size(), berths)

    def test_quays_of_many_berths(self):
        for kind in KINDS:
            for berths in [50, 399, 400]:
                self.check_many(kind, berths, 60, 7)

    def test_400_ships(self):
        for kind in KINDS:
            wish = 1 if kind is Quay else 200
            quay = kind(400)
            berths = [quay.come(name_of(number), wish) for number in range(400)]
            self.assertEqual(berths, [(wish + number - 1) % 400 + 1 for number in range(400)])
            self.assertEqual(quay.free_ones(), [])
            self.assertIs(told(quay.come, "none", wish), NoRoom)
            moves = quay.leave(name_of(0))
            self.assertEqual(moves, [(name_of(n), berths[n], berths[n - 1]) for n in range(1, 400)])
            self.assertEqual(quay.free_ones(), [berths[399]])
            self.assertEqual(quay.leave(name_of(399)), [])
            self.assertEqual(len(quay.all_ships()), 398)

    def test_one_that_comes_again_is_the_last(self):
        for kind in KINDS:
            quay = laid(kind, 4, [("a", 1), ("b", 1), ("c", 1)])
            quay.leave("a")
            self.assertEqual(quay.come("a", 1), 3)
            self.assertEqual(quay.all_ships(), [("b", 1, 1), ("c", 1, 2), ("a", 1, 3)])
            self.assertEqual(quay.leave("b"), [("c", 2, 1), ("a", 3, 2)])

    def test_quays_beside_each_other(self):
        for kind in KINDS:
            one, other = kind(3), kind(3)
            one.come("a", 1)
            self.assertEqual(other.all_ships(), [])
            self.assertEqual(other.come("a", 1), 1)
            one.leave("a")
            self.assertEqual(other.where("a"), 1)

    def test_kinds_of_values(self):
        for kind in KINDS:
            quay = kind(3)
            self.assertIs(type(quay.come("a", 1)), int)
            quay.come("b", 1)
            self.assertIs(type(quay.where("a")), int)
            self.assertIs(type(quay.all_ships()), list)
            self.assertEqual([type(ship) for ship in quay.all_ships()], [tuple, tuple])
            self.assertIs(type(quay.free_ones()), list)
            self.assertIs(type(quay.kind()), str)
            moves = quay.leave("a")
            self.assertIs(type(moves), list)
            self.assertEqual([type(move) for move in moves], [tuple])

    def test_names(self):
        for kind in KINDS:
            quay = kind(12)
            names = ["a", "z", "az", "abcdefgh", "zzzzzzzz", "quay", "round", "none", "true"]
            for name in names:
                quay.come(name, 1)
            self.assertEqual([ship[0] for ship in quay.all_ships()], names)
            # The same letters, though another text.
            self.assertEqual(quay.where("".join(["a", "bcdefgh"])), 4)

    def test_lists_told_are_the_askers_own(self):
        for kind in KINDS:
            quay = laid(kind, 5, [("a", 1), ("b", 1), ("c", 1)])
            before = shown(quay)
            for function in [quay.all_ships, quay.free_ones]:
                answer = function()
                answer[0] = 7
                answer.append(8)
                self.assertEqual(shown(quay), before)
                function().clear()
                self.assertEqual(shown(quay), before)
            ships, free = quay.all_ships(), quay.free_ones()
            moves = quay.leave("a")
            self.assertEqual(moves, [("b", 2, 1), ("c", 3, 2)])
            self.assertEqual((ships, free), before[2:])
            before = shown(quay)
            moves.reverse()
            moves.append(8)
            self.assertEqual(shown(quay), before)
            self.assertEqual(quay.leave("b"), [("c", 2, 1)])
            self.assertEqual(moves, [("c", 3, 2), ("b", 2, 1), 8])
            empty = quay.leave("c")
            empty.append(8)
            quay.come("c", 1)
            self.assertEqual(quay.leave("c"), [])


class TestRefusals(Kept):

    def refused(self, refusal, quay, function, *args):
        before = shown(quay)
        text = f"{function.__name__} of {[type(arg).__name__ for arg in args]}"
        self.assertIs(told(function, *args), refusal, text)
        self.assertEqual(shown(quay), before, text)

    def quays(self):
        """Of both kinds one without, one with ships, and a full one."""
        out = []
        for kind in KINDS:
            out.append(laid(kind, 3, []))
            out.append(laid(kind, 3, [("a", 1), ("b", 1)]))
            out.append(laid(kind, 3, [("a", 1), ("b", 3), ("c", 1)]))
        return out

    def test_what_is_no_quay(self):
        for kind in KINDS:
            for berths in no_quays() + ["quay", "round", Quay(3), Round(3)]:
                self.assertIs(told(kind, berths), NoQuay, str(type(berths)))

    def test_what_is_no_name(self):
        for quay in self.quays():
            for name in no_names():
                self.refused(NoName, quay, quay.come, name, 1)
                self.refused(NoName, quay, quay.leave, name)
                self.refused(NoName, quay, quay.where, name)

    def test_no_name_comes_first(self):
        for quay in self.quays():
            for name in ["", "A", "abcdefghi", None, 1, ["a"]]:
                for wish in no_berths(3):
                    self.refused(NoName, quay, quay.come, name, wish)

    def test_taken(self):
        for quay in self.quays():
            for name, _, _ in quay.all_ships():
                for wish in no_berths(3) + [1, 2, 3]:
                    self.refused(Taken, quay, quay.come, name, wish)

    def test_what_is_no_wish(self):
        for quay in self.quays():
            for wish in no_berths(3):
                self.refused(NoWish, quay, quay.come, "d", wish)
        for kind in KINDS:
            for berths in [1, 399, 400]:
                quay = kind(berths)
                for wish in no_berths(berths):
                    self.refused(NoWish, quay, quay.come, "d", wish)
                self.assertEqual(quay.come("d", berths), berths)

    def test_no_room(self):
        for quay in self.quays():
            if quay.free_ones():
                continue
            for wish in [1, 2, 3]:
                self.refused(NoRoom, quay, quay.come, "d", wish)
        quay = laid(Quay, 3, [("a", 2), ("b", 2)])
        for wish in [2, 3]:
            self.refused(NoRoom, quay, quay.come, "d", wish)
        quay = laid(Round, 3, [("a", 2), ("b", 2)])
        self.assertEqual(quay.come("d", 3), 1)

    def test_no_ship(self):
        for quay in self.quays():
            for name in ["d", "aa", "ab", "abcdefgh"]:
                self.refused(NoShip, quay, quay.leave, name)
                self.refused(NoShip, quay, quay.where, name)

    def test_one_that_left_is_there_no_more(self):
        for quay in self.quays():
            for name, _, _ in quay.all_ships():
                quay.leave(name)
                self.refused(NoShip, quay, quay.leave, name)
                self.refused(NoShip, quay, quay.where, name)

    def test_a_quay_goes_on_behind_refusals(self):
        for kind in KINDS:
            quay, ledger = kind(4), Ledger(4, kind is Round)
            for number, wish in enumerate(mixed(4, 40, 3)):
                for bad in [("", 1), ("a", 0), (None, None), ("q", 5)]:
                    told(quay.come, *bad)
                for bad in ["", "nowhere", None, []]:
                    told(quay.leave, bad)
                    told(quay.where, bad)
                name = name_of(number)
                self.assertEqual(told(quay.come, name, wish), ledger.come(name, wish))
                if number % 3 == 2:
                    self.both_leave(quay, ledger, ledger.rows[number % len(ledger.rows)][0])
                self.agree(quay, ledger)


if __name__ == "__main__":
    unittest.main()
