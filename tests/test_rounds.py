"""Point 5: the round quay."""

import unittest

from berthrow.errors import NoWishes, TooMany
from berthrow.rounds import left_over, placed_round, turned, turning
from berthrow.wishes import is_good
from plain import all_lists, mixed, told, walk

SIXTY = 123456789012345678901234567890123456789012345678901234567890


def one_on(berths, berth):
    return 1 if berth == berths else berth + 1


def turned_step_by_step(berths, wishes, by):
    for _ in range(by):
        wishes = [one_on(berths, wish) for wish in wishes]
    return wishes


class TestRoundQuay(unittest.TestCase):

    def check(self, berths, wishes):
        found = walk(berths, wishes, is_round=True)
        self.assertEqual(placed_round(berths, wishes), found)
        free = [berth for berth in range(1, berths + 1) if berth not in found]
        self.assertEqual(left_over(berths, wishes), free)

    def test_round_past_the_last_berth(self):
        self.assertEqual(placed_round(4, [3, 3, 3]), [3, 4, 1])
        self.assertEqual(placed_round(4, [4, 1, 4, 4]), [4, 1, 2, 3])
        self.assertEqual(left_over(4, [3, 3, 3]), [2])
        self.assertEqual(left_over(5, [5, 5]), [2, 3, 4])
        self.assertEqual(left_over(4, [4, 1, 4, 4]), [])

    def test_as_on_a_straight_quay(self):
        self.assertEqual(placed_round(5, [2, 2, 4, 2, 1]), [2, 3, 4, 5, 1])

    def test_kinds_of_values(self):
        self.assertIs(type(placed_round(3, (1, 1))), list)
        self.assertIs(type(left_over(3, (1, 1))), list)
        self.assertIs(type(turned(3, (1, 1), 0)), list)
        self.assertIs(type(turning(3, (1, 1))), int)

    def test_all_small_quays(self):
        for berths in range(1, 6):
            for ships in range(berths + 1):
                for wishes in all_lists(berths, ships):
                    self.check(berths, wishes)

    def test_large_quays(self):
        for berths, ships in [(400, 400), (400, 399), (400, 250), (91, 90), (90, 89)]:
            for seed in range(3):
                self.check(berths, mixed(berths, ships, seed))
            self.check(berths, [berths] * ships)
            self.check(berths, [berths // 2] * ships)

    def test_more_ships_than_berths(self):
        for function in [placed_round, left_over]:
            for berths in [1, 2, 5, 399]:
                self.assertIsNot(told(function, berths, [1] * berths), TooMany)
                self.assertIs(told(function, berths, [1] * (berths + 1)), TooMany)
                self.assertIs(told(function, berths, (1,) * 400), TooMany)


class TestTurned(unittest.TestCase):

    def test_turned_step_by_step(self):
        for berths in [1, 2, 3, 7, 400]:
            wishes = mixed(berths, 20, 3) + [1, berths]
            for by in range(15):
                self.assertEqual(turned(berths, wishes, by), turned_step_by_step(berths, wishes, by))

    def test_by_none(self):
        wishes = [3, 1, 3]
        self.assertEqual(turned(3, wishes, 0), [3, 1, 3])
        self.assertIsNot(turned(3, wishes, 0), wishes)

    def test_whole_rounds(self):
        for by in [3, 6, -3, 3 * SIXTY, -3 * SIXTY]:
            self.assertEqual(turned(3, [1, 2, 3, 3], by), [1, 2, 3, 3])

    def test_below_0(self):
        self.assertEqual(turned(5, [1, 2, 5], -1), [5, 1, 4])
        self.assertEqual(turned(5, [1, 2, 5], -7), [4, 5, 3])
        self.assertEqual(turned(1, [1], -7), [1])

    def test_numbers_of_sixty_figures(self):
        self.assertEqual(len(str(SIXTY)), 60)
        for by in [SIXTY, -SIXTY, 10 ** 60 - 1, 1 - 10 ** 60]:
            for berths in [1, 7, 399, 400]:
                wishes = mixed(berths, 30, 4) + [1, berths]
                rest = by - by // berths * berths
                self.assertEqual(turned(berths, wishes, by), turned_step_by_step(berths, wishes, rest))

    def test_more_ships_than_berths(self):
        self.assertEqual(turned(2, [1, 2, 1, 1], 1), [2, 1, 2, 2])

    def test_turned_there_and_back(self):
        wishes = mixed(400, 400, 9)
        self.assertEqual(turned(400, turned(400, wishes, 123), -123), wishes)

    def test_left_ones_are_turned_too(self):
        for berths, ships in [(1, 0), (3, 2), (4, 2), (5, 3)]:
            for wishes in all_lists(berths, ships):
                free = left_over(berths, wishes)
                for by in [-berths - 1, -1, 0, 1, berths - 1, SIXTY]:
                    far = left_over(berths, turned(berths, wishes, by))
                    self.assertEqual(far, sorted(turned(berths, free, by)))


class TestTurning(unittest.TestCase):

    def check(self, berths, wishes):
        by = turning(berths, wishes)
        leaves_last = [
            n for n in range(berths) if left_over(berths, turned(berths, wishes, n)) == [berths]
        ]
        self.assertEqual(leaves_last, [by])
        return by

    def test_all_small_quays(self):
        for berths in range(1, 6):
            for wishes in all_lists(berths, berths - 1):
                by = self.check(berths, wishes)
                if berths == 1:
                    continue
                answers = [told(is_good, berths - 1, turned(berths, wishes, n)) for n in range(berths)]
                good = [n for n in range(berths) if answers[n] == (bool, True)]
                self.assertEqual(good, [by])

    def test_by_hand(self):
        self.assertEqual(turning(1, []), 0)
        self.assertEqual(turning(3, [1, 1]), 0)
        self.assertEqual(turning(3, [3, 3]), 1)
        self.assertEqual(turning(3, [2, 2]), 2)

    def test_up_to_90_berths(self):
        for berths in [30, 89, 90]:
            for seed in range(3):
                self.check(berths, mixed(berths, berths - 1, seed))

    def test_another_number_of_wishes(self):
        for berths in [1, 2, 3, 90, 399, 400]:
            for ships in [0, berths - 2, berths - 1, berths, berths + 1, 400]:
                if not 0 <= ships <= 400:
                    continue
                answer = told(turning, berths, [1] * ships)
                self.assertEqual(answer is NoWishes, ships != berths - 1, (berths, ships))


if __name__ == "__main__":
    unittest.main()
