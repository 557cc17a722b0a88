"""Point 6: good wishes in order."""

import unittest

from berthrow.errors import NoCount, NoWishes
from berthrow.rows import first_row, how_many, last_row, next_row
from plain import away, all_lists, good_lists, mixed, told

SMALL = [(berths, ships) for berths in range(1, 6) for ships in range(berths + 1)]


class TestHowMany(unittest.TestCase):

    def test_all_small_quays(self):
        for berths, ships in SMALL:
            self.assertEqual(how_many(berths, ships), len(good_lists(berths, ships)))

    def test_no_ship(self):
        for berths in [1, 2, 399, 400]:
            self.assertEqual(how_many(berths, 0), 1)

    def test_as_many_ships_as_berths(self):
        self.assertEqual([how_many(n, n) for n in range(1, 6)], [1, 3, 16, 125, 1296])

    def test_more_ships_than_berths(self):
        for berths in [1, 2, 399]:
            self.assertEqual(how_many(berths, berths + 1), 0)
            self.assertEqual(how_many(berths, 400), 0)

    def test_400_berths(self):
        self.assertEqual(how_many(400, 1), 400)
        self.assertEqual(how_many(400, 2), 399 * 401)
        self.assertEqual(how_many(400, 200), 201 * 401 ** 199)
        self.assertEqual(how_many(400, 399), 2 * 401 ** 398)
        self.assertEqual(how_many(400, 400), 401 ** 399)

    def test_kinds_of_values(self):
        for berths, ships in [(3, 0), (3, 2), (3, 3), (3, 4)]:
            self.assertIs(type(how_many(berths, ships)), int)


class TestRows(unittest.TestCase):

    def all_rows(self, berths, ships):
        """All rows, as the program tells them one by one, tuples throughout."""
        out = [first_row(berths, ships)]
        while (row := next_row(berths, out[-1])) is not None:
            out.append(row)
        return out

    def test_each_comes_once_in_order(self):
        for berths, ships in SMALL + [(6, 3), (12, 2), (30, 1)]:
            rows = [tuple(row) for row in good_lists(berths, ships)]
            self.assertEqual(self.all_rows(berths, ships), rows)
            self.assertEqual(last_row(berths, ships), rows[-1])

    def test_next_one_behind_a_list(self):
        self.assertEqual(next_row(3, [1, 1, 3]), (1, 2, 1))
        self.assertEqual(next_row(3, (1, 1, 3)), (1, 2, 1))
        self.assertEqual(next_row(3, [1, 3, 2]), (2, 1, 1))
        self.assertIsNone(next_row(3, [3, 2, 1]))

    def test_kinds_of_values(self):
        for row in [first_row(3, 2), last_row(3, 2), next_row(3, [1, 1]), next_row(3, (1, 1))]:
            self.assertIs(type(row), tuple)
        self.assertEqual((type(first_row(3, 0)), type(last_row(3, 0))), (tuple, tuple))

    def test_no_ship(self):
        for berths in [1, 3, 400]:
            self.assertEqual(first_row(berths, 0), ())
            self.assertEqual(last_row(berths, 0), ())
            self.assertIsNone(next_row(berths, ()))

    def test_as_many_ships_as_berths(self):
        self.assertEqual(first_row(4, 4), (1, 1, 1, 1))
        self.assertEqual(last_row(4, 4), (4, 3, 2, 1))

    def test_more_ships_than_berths(self):
        for function in [first_row, last_row]:
            for berths, ships in [(1, 2), (3, 4), (399, 400), (400, 401), (3, 400)]:
                self.assertIs(told(function, berths, ships), NoCount)

    def test_wishes_that_are_not_good(self):
        for berths in range(1, 5):
            for ships in range(6):
                for wishes in all_lists(berths, ships):
                    if away(berths, wishes):
                        self.assertIs(told(next_row, berths, wishes), NoWishes)
        self.assertIs(told(next_row, 400, [400, 400]), NoWishes)
        self.assertIs(told(next_row, 399, [1] * 400), NoWishes)

    def test_400_berths(self):
        down = tuple(range(400, 0, -1))
        self.assertEqual(first_row(400, 400), (1,) * 400)
        self.assertEqual(last_row(400, 400), down)
        self.assertEqual(last_row(400, 3), (400, 399, 398))
        self.assertEqual(next_row(400, [1] * 400), (1,) * 399 + (2,))
        self.assertEqual(next_row(400, (1,) + down[:-1]), (2,) + (1,) * 399)
        self.assertEqual(next_row(400, (1, 400)), (2, 1))
        self.assertIsNone(next_row(400, down))

    def test_rows_of_large_quays_are_good_and_rise(self):
        for berths, ships in [(400, 400), (400, 200), (100, 90)]:
            row = tuple(min(wish, ships - at) for at, wish in enumerate(mixed(berths, ships, 2)))
            for _ in range(30):
                above = next_row(berths, row)
                self.assertEqual(len(above), ships)
                self.assertEqual(away(berths, above), 0)
                self.assertGreater(above, row)
                row = above


if __name__ == "__main__":
    unittest.main()
