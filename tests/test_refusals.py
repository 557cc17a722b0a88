"""Points 1 and 2: what a quay and wishes are, what is refused, and what stays as it was."""

import unittest
from copy import deepcopy

from berthrow.errors import NoCount, NoQuay, NoWishes, TooMany
from berthrow.rounds import left_over, placed_round, turned, turning
from berthrow.rows import first_row, how_many, last_row, next_row
from berthrow.wishes import crowded, gone_on, is_good, placed, taken
from plain import mixed, no_numbers, no_quays, no_wishes, told

STRAIGHT = [placed, taken, gone_on, is_good, crowded]
ROUND = [placed_round, left_over]
WITH_WISHES = STRAIGHT + ROUND + [turning, next_row]
WITH_SHIPS = [how_many, first_row, last_row]


class Refusals(unittest.TestCase):

    def refused(self, kind, function, *args):
        shown = f"{function.__name__} of {[type(arg).__name__ for arg in args]}"
        self.assertIs(told(function, *args), kind, shown)


class TestQuays(Refusals):

    def test_what_is_no_quay(self):
        for berths in no_quays():
            for function in WITH_WISHES:
                self.refused(NoQuay, function, berths, [])
                self.refused(NoQuay, function, berths, [1])
            self.refused(NoQuay, turned, berths, [], 0)
            self.refused(NoQuay, turned, berths, [1], 0)
            for function in WITH_SHIPS:
                self.refused(NoQuay, function, berths, 0)
                self.refused(NoQuay, function, berths, 1)

    def test_no_quay_comes_first(self):
        for berths in [0, 401, True, None, "3", [3]]:
            for wishes in no_wishes(3):
                for function in WITH_WISHES:
                    self.refused(NoQuay, function, berths, wishes)
                self.refused(NoQuay, turned, berths, wishes, 0)
                self.refused(NoQuay, turned, berths, wishes, None)
            for ships in no_numbers() + [-1, 401]:
                for function in WITH_SHIPS:
                    self.refused(NoQuay, function, berths, ships)

    def test_quays_of_one_and_of_400_berths(self):
        self.assertEqual(placed(1, [1]), [1])
        self.assertEqual(placed(400, [400, 1]), [400, 1])
        self.assertEqual(taken(1, [1]), [1])
        self.assertEqual(taken(400, [400]), [400])
        self.assertEqual(gone_on(1, [1]), 0)
        self.assertEqual(gone_on(400, [399, 399]), 1)
        self.assertIs(is_good(1, [1]), True)
        self.assertIs(is_good(400, [400]), True)
        self.assertEqual(crowded(1, [1, 1]), 1)
        self.assertEqual(crowded(400, [400, 400]), 400)
        self.assertEqual(placed_round(1, [1]), [1])
        self.assertEqual(placed_round(400, [400, 400]), [400, 1])
        self.assertEqual(left_over(1, [1]), [])
        self.assertEqual(left_over(400, [400, 400]), list(range(2, 400)))
        self.assertEqual(turned(1, [1], 5), [1])
        self.assertEqual(turned(400, [400], 1), [1])
        self.assertEqual(turning(1, []), 0)
        self.assertIs(type(turning(400, [1] * 399)), int)
        self.assertEqual(how_many(1, 1), 1)
        self.assertEqual(how_many(400, 1), 400)
        self.assertEqual(first_row(1, 1), (1,))
        self.assertEqual(first_row(400, 1), (1,))
        self.assertEqual(last_row(1, 1), (1,))
        self.assertEqual(last_row(400, 1), (400,))
        self.assertIsNone(next_row(1, [1]))
        self.assertEqual(next_row(400, [399]), (400,))


class TestWishes(Refusals):

    def test_what_is_no_wishes(self):
        for berths in [1, 3, 399, 400]:
            for wishes in no_wishes(berths):
                for function in WITH_WISHES:
                    self.refused(NoWishes, function, berths, wishes)
                self.refused(NoWishes, turned, berths, wishes, 0)

    def test_a_list_that_holds_itself(self):
        wishes = [1]
        wishes.append(wishes)
        for function in WITH_WISHES:
            self.refused(NoWishes, function, 3, wishes)
        self.refused(NoWishes, turned, 3, wishes, 0)

    def test_no_wishes(self):
        for wishes in [[], ()]:
            self.assertEqual(placed(3, wishes), [])
            self.assertEqual(taken(3, wishes), [])
            self.assertEqual(gone_on(3, wishes), 0)
            self.assertIs(is_good(3, wishes), True)
            self.assertIsNone(crowded(3, wishes))
            self.assertEqual(placed_round(3, wishes), [])
            self.assertEqual(left_over(3, wishes), [1, 2, 3])
            self.assertEqual(turned(3, wishes, 2), [])
            self.assertIsNone(next_row(3, wishes))

    def test_400_wishes(self):
        for wishes in [[1] * 400, (1,) * 400]:
            self.assertEqual(placed(400, wishes), list(range(1, 401)))
            self.assertEqual(placed(2, wishes), [1, 2] + [None] * 398)
            self.assertEqual(taken(2, wishes), [1, 2])
            self.assertEqual(gone_on(2, wishes), 1)
            self.assertIs(is_good(400, wishes), True)
            self.assertIs(is_good(399, wishes), False)
            self.assertEqual(crowded(399, wishes), 1)
            self.assertEqual(placed_round(400, wishes), list(range(1, 401)))
            self.assertEqual(left_over(400, wishes), [])
            self.assertEqual(turned(3, wishes, 1), [2] * 400)
            self.assertEqual(next_row(400, wishes), (1,) * 399 + (2,))

    def test_no_wishes_come_ahead_of_the_rest(self):
        for wishes in no_wishes(3) + [[1, 2, 3, 1, 4], [1, 2, 3, 1, True]]:
            for function in ROUND + [turning, next_row]:
                self.refused(NoWishes, function, 3, wishes)
            for by in no_numbers():
                self.refused(NoWishes, turned, 3, wishes, by)

    def test_too_many(self):
        for function in ROUND:
            self.refused(TooMany, function, 3, [1, 2, 3, 1])
            self.refused(TooMany, function, 3, (1,) * 400)
            self.refused(NoWishes, function, 400, [1] * 401)

    def test_what_is_no_number_to_turn_by(self):
        for by in no_numbers():
            self.refused(NoCount, turned, 3, [1, 2], by)
            self.refused(NoCount, turned, 3, [], by)

    def test_numbers_of_ships(self):
        for ships in no_numbers() + [-1, -400, 401, 402, 10 ** 60, -10 ** 60]:
            for berths in [1, 3, 400]:
                for function in WITH_SHIPS:
                    self.refused(NoCount, function, berths, ships)


class TestWhatStays(Refusals):

    def calls(self):
        """Functions with a quay and wishes that they take, and some that they refuse."""
        out = []
        for berths, wishes in [(5, [2, 1, 2, 4]), (5, [1]), (3, [3, 1, 3]), (3, [3, 3, 3, 1]),
                               (7, mixed(7, 6, 1)), (4, [1, 5, 2]), (4, [2, True]), (2, [1, 2, 9])]:
            for function in WITH_WISHES:
                out.append((function, berths, wishes))
            for by in [0, 2, -1, None]:
                out.append((lambda quay, row, by=by: turned(quay, row, by), berths, wishes))
        return out

    def test_what_is_handed_in_stays(self):
        for function, berths, wishes in self.calls():
            handed = deepcopy(wishes)
            told(function, berths, handed)
            self.assertEqual(repr(handed), repr(wishes))

    def test_lists_and_tuples_alike(self):
        for function, berths, wishes in self.calls():
            self.assertEqual(told(function, berths, list(wishes)), told(function, berths, tuple(wishes)))

    def test_what_is_handed_in_may_change_behind_the_call(self):
        for function, berths, wishes in self.calls():
            handed = deepcopy(wishes)
            answer = told(function, berths, handed)
            shown = repr(answer)
            handed.reverse()
            handed.append(1)
            self.assertEqual(repr(answer), shown)
            handed.pop()
            handed.reverse()
            self.assertEqual(repr(told(function, berths, handed)), shown)

    def test_a_list_told_is_the_askers_own(self):
        seen = 0
        for function, berths, wishes in self.calls():
            handed = deepcopy(wishes)
            answer = told(function, berths, handed)
            shown = repr(answer)
            if not isinstance(answer, tuple) or answer[0] is not list:
                continue
            seen += 1
            answer[1].append(77)
            answer[1][0] = 99
            self.assertEqual(repr(handed), repr(wishes))
            again = told(function, berths, handed)
            self.assertEqual(repr(again), shown)
            self.assertIsNot(again[1], answer[1])
        self.assertGreater(seen, 20)

    def test_an_empty_list_told_is_the_askers_own(self):
        for function in [placed, taken, placed_round]:
            function(3, []).append(1)
            self.assertEqual(function(3, []), [])
        turned(3, [], 0).append(1)
        self.assertEqual(turned(3, [], 0), [])
        left_over(1, [1]).append(1)
        self.assertEqual(left_over(1, [1]), [])

    def test_what_is_told_later_leaves_what_was_told(self):
        first = placed(5, [2, 2, 2])
        free = left_over(5, [2, 2, 2])
        far = turned(5, [2, 2, 2], 1)
        held = taken(5, [2, 2, 2])
        placed(5, [5, 5, 5])
        left_over(5, [5, 5])
        turned(5, [5, 5], 3)
        taken(5, [5, 5])
        self.assertEqual([first, free, far, held], [[2, 3, 4], [1, 5], [3, 3, 3], [2, 3, 4]])


if __name__ == "__main__":
    unittest.main()
