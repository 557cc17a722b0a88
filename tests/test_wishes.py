"""Points 3 and 4: the straight quay, and good wishes."""

import unittest
from itertools import permutations

from berthrow.wishes import crowded, gone_on, is_good, placed, taken
from plain import all_lists, away, mixed, walk

SMALL = [(berths, ships) for berths in range(1, 5) for ships in range(6)]
LARGE = [(400, 400), (400, 399), (399, 400), (400, 100), (100, 400), (237, 237), (1, 400)]


def far(wishes, found):
    """How many berths behind their wishes the ships lie, all together."""
    return sum(berth - wish for wish, berth in zip(wishes, found) if berth is not None)


def too_full(berths, wishes):
    """The berths from which on more ships wish than there are berths."""
    return [
        berth for berth in range(1, berths + 1)
        if len([wish for wish in wishes if wish >= berth]) > berths + 1 - berth
    ]


class TestStraightQuay(unittest.TestCase):

    def check(self, berths, wishes):
        found = walk(berths, wishes)
        self.assertEqual(placed(berths, wishes), found)
        self.assertEqual(taken(berths, wishes), sorted(berth for berth in found if berth))
        self.assertEqual(gone_on(berths, wishes), far(wishes, found))

    def test_wishes_that_come_true(self):
        self.assertEqual(placed(4, [3, 1, 4, 2]), [3, 1, 4, 2])
        self.assertEqual(taken(4, [3, 1, 4]), [1, 3, 4])
        self.assertEqual(gone_on(4, [3, 1, 4, 2]), 0)

    def test_ships_that_go_on(self):
        self.assertEqual(placed(5, [2, 2, 4, 2, 1]), [2, 3, 4, 5, 1])
        self.assertEqual(taken(5, [2, 2, 4, 2]), [2, 3, 4, 5])
        self.assertEqual(gone_on(5, [2, 2, 4, 2, 1]), 4)

    def test_ships_that_go_away(self):
        self.assertEqual(placed(5, [5, 4, 4, 5, 1]), [5, 4, None, None, 1])
        self.assertEqual(taken(5, [5, 4, 4, 5, 1]), [1, 4, 5])
        self.assertEqual(gone_on(5, [4, 4, 4, 1, 1]), 2)
        self.assertEqual(placed(1, [1, 1, 1]), [1, None, None])

    def test_a_ship_that_goes_away_leaves_the_quay_as_it_was(self):
        self.assertEqual(placed(3, [3, 3, 2, 3, 1, 1]), [3, None, 2, None, 1, None])

    def test_kinds_of_values(self):
        self.assertIs(type(placed(3, (1, 1))), list)
        self.assertIs(type(taken(3, (1, 1))), list)
        self.assertIs(type(gone_on(3, (1, 1))), int)
        self.assertIs(type(gone_on(3, ())), int)

    def test_all_small_quays(self):
        for berths, ships in SMALL:
            for wishes in all_lists(berths, ships):
                self.check(berths, wishes)

    def test_large_quays(self):
        for berths, ships in LARGE:
            for seed in range(3):
                self.check(berths, mixed(berths, ships, seed))

    def test_400_ships_at_400_berths(self):
        self.check(400, [1] * 400)
        self.check(400, [400] * 400)
        self.check(400, [200] * 400)
        self.check(400, list(range(400, 0, -1)))
        self.check(400, list(range(1, 401)))
        self.assertEqual(gone_on(400, [1] * 400), 79800)


class TestGoodWishes(unittest.TestCase):

    def check(self, berths, wishes):
        bad = too_full(berths, wishes)
        self.assertIs(is_good(berths, wishes), away(berths, wishes) == 0)
        self.assertEqual(crowded(berths, wishes), bad[-1] if bad else None)
        self.assertIs(is_good(berths, wishes), not bad)

    def test_good_ones(self):
        for berths, wishes in [(1, [1]), (3, [1, 1, 1]), (3, [3, 2, 1]), (3, [2, 2]), (5, [4, 4, 1, 1, 1])]:
            self.assertIs(is_good(berths, wishes), True)
            self.assertIsNone(crowded(berths, wishes))

    def test_crowded_ones(self):
        for berths, wishes, berth in [
            (1, [1, 1], 1), (3, [3, 3], 3), (3, [2, 2, 2], 2), (3, [1, 1, 1, 1], 1), (5, [4, 5, 4], 4),
        ]:
            self.assertIs(is_good(berths, wishes), False)
            self.assertEqual(crowded(berths, wishes), berth)

    def test_the_last_of_several(self):
        self.assertEqual(crowded(5, [5, 5, 4]), 5)
        self.assertEqual(crowded(5, [2] * 6), 2)
        self.assertEqual(crowded(5, [2] * 6 + [5, 5]), 5)
        self.assertEqual(crowded(5, [1, 1, 1, 4, 4, 4, 1]), 4)

    def test_kinds_of_values(self):
        self.assertIs(type(crowded(1, [1, 1])), int)

    def test_all_small_quays(self):
        for berths, ships in SMALL:
            for wishes in all_lists(berths, ships):
                self.check(berths, wishes)

    def test_large_quays(self):
        for berths, ships in LARGE:
            for seed in range(3):
                self.check(berths, mixed(berths, ships, seed))
        self.check(400, [1] * 400)
        self.check(400, [400] * 400)
        self.check(400, list(range(1, 401)))
        self.check(400, [200] * 201 + [1] * 199)
        self.check(400, [200] * 202 + [1] * 198)
        self.check(400, [2] * 400)

    def check_orders(self, berths, wishes, orders):
        held = taken(berths, wishes)
        gone = placed(berths, wishes).count(None)
        for order in orders:
            self.assertEqual(taken(berths, order), held)
            self.assertEqual(placed(berths, order).count(None), gone)
            self.assertIs(is_good(berths, order), gone == 0)
            if gone == 0:
                self.assertEqual(gone_on(berths, order), gone_on(berths, wishes))

    def test_all_orders_of_the_same_ships(self):
        for berths, ships in [(3, 3), (4, 3), (4, 4), (3, 5)]:
            for wishes in all_lists(berths, ships):
                if wishes == sorted(wishes):
                    self.check_orders(berths, wishes, permutations(wishes))

    def test_orders_of_400_ships(self):
        for wishes in [mixed(400, 400, 5), mixed(200, 400, 6), [400 - n // 2 for n in range(400)]]:
            self.check_orders(400, wishes, [wishes[::-1], sorted(wishes), wishes[150:] + wishes[:150]])


if __name__ == "__main__":
    unittest.main()
