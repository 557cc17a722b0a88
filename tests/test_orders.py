"""Point 8: the orders in which ships lie, and the full rows that lead to them."""

import unittest
from copy import deepcopy
from itertools import permutations, product

from berthrow.errors import NoOrder, NoWishes
from berthrow.orders import lies, reaches, rows_to
from plain import good_lists, mixed, no_full_rows, no_orders, told, walk


def some_order(ships, seed):
    """An order of so many ships that follows no plain pattern."""
    marks = mixed(1000, ships, seed)
    return sorted(range(ships), key=lambda ship: (marks[ship], ship))


def pairs_by_text(order):
    """Low and high of each ship as the document has them."""
    pairs = []
    for ship in range(len(order)):
        high = order.index(ship) + 1
        lows = [
            low for low in range(1, high + 1)
            if all(order[berth - 1] <= ship for berth in range(low, high + 1))
        ]
        pairs.append((min(lows), high))
    return pairs


def order_by_walk(wishes):
    found = walk(len(wishes), wishes)
    return tuple(found.index(berth) for berth in range(1, len(wishes) + 1))


MANY = [some_order(ships, seed) for ships in [7, 20, 39, 40] for seed in range(4)] + [
    list(range(40)), list(range(39, -1, -1)), list(range(20, 40)) + list(range(20)),
]


class TestLies(unittest.TestCase):

    def test_by_hand(self):
        self.assertEqual(lies([1]), (0,))
        self.assertEqual(lies([1, 1, 1]), (0, 1, 2))
        self.assertEqual(lies([3, 2, 1]), (2, 1, 0))
        self.assertEqual(lies([2, 2, 1]), (2, 0, 1))
        self.assertEqual(lies((2, 1, 1, 3)), (1, 0, 2, 3))

    def test_all_full_rows_of_few_ships(self):
        for ships in range(1, 6):
            for row in good_lists(ships, ships):
                order = lies(row)
                self.assertIs(type(order), tuple)
                self.assertEqual(order, order_by_walk(row))
                self.assertEqual(lies(tuple(row)), order)

    def test_up_to_40_ships(self):
        for order in MANY:
            for seed in range(3):
                marks = mixed(1000, len(order), seed)
                row = [low + mark % (high - low + 1) for (low, high), mark in zip(pairs_by_text(order), marks)]
                self.assertEqual(lies(row), tuple(order))
                self.assertEqual(order_by_walk(row), tuple(order))

    def test_400_ships(self):
        self.assertIsNot(told(lies, [1] * 400), NoWishes)
        self.assertIsNot(told(lies, tuple(range(400, 0, -1))), NoWishes)

    def test_what_is_no_full_row(self):
        for row in no_full_rows():
            self.assertIs(told(lies, row), NoWishes, str(type(row)))

    def test_what_is_handed_in_stays(self):
        for row in [[1], [3, 1, 2, 1], [2, 2], [1, True], [1] * 40]:
            handed = deepcopy(row)
            answer = told(lies, handed)
            self.assertEqual(repr(handed), repr(row))
            shown = repr(answer)
            handed.append(1)
            self.assertEqual(repr(answer), shown)
            self.assertEqual(repr(told(lies, row)), shown)


class TestReaches(unittest.TestCase):

    def test_by_hand(self):
        self.assertEqual(reaches([0]), [(1, 1)])
        self.assertEqual(reaches([0, 1, 2]), [(1, 1), (1, 2), (1, 3)])
        self.assertEqual(reaches([2, 1, 0]), [(3, 3), (2, 2), (1, 1)])
        self.assertEqual(reaches((1, 3, 0, 2)), [(3, 3), (1, 1), (3, 4), (1, 2)])
        self.assertEqual(rows_to((1, 3, 0, 2)), 4)
        self.assertEqual(rows_to([0, 1, 2]), 6)
        self.assertEqual(rows_to([2, 1, 0]), 1)

    def test_just_the_rows_between_lead_there(self):
        for ships in range(1, 6):
            leading = {order: [] for order in permutations(range(ships))}
            for row in good_lists(ships, ships):
                leading[order_by_walk(row)].append(tuple(row))
            for order, rows in leading.items():
                pairs = reaches(order)
                between = list(product(*[range(low, high + 1) for low, high in pairs]))
                self.assertEqual(between, rows)
                self.assertEqual(rows_to(order), len(rows))
                self.assertEqual([lies(row) for row in rows], [order] * len(rows))
                self.assertEqual(reaches(list(order)), pairs)
                self.assertEqual(rows_to(list(order)), len(rows))

    def test_up_to_40_ships(self):
        for order in MANY:
            pairs = pairs_by_text(order)
            self.assertEqual(reaches(order), pairs)
            many = 1
            for low, high in pairs:
                many *= high - low + 1
            self.assertEqual(rows_to(order), many)

    def test_wishes_just_outside_lead_elsewhere(self):
        for order in MANY[:8]:
            pairs = reaches(order)
            for ship, (low, high) in enumerate(pairs):
                for wish in [low - 1, high + 1]:
                    row = [pair[1] for pair in pairs]
                    row[ship] = wish
                    self.assertNotEqual(told(lies, row), (tuple, tuple(order)))

    def test_kinds_of_values(self):
        pairs = reaches((1, 0, 2))
        self.assertIs(type(pairs), list)
        self.assertEqual([type(pair) for pair in pairs], [tuple] * 3)
        self.assertEqual([type(end) for pair in pairs for end in pair], [int] * 6)
        self.assertIs(type(rows_to((1, 0, 2))), int)
        self.assertIs(type(rows_to([0])), int)

    def test_400_ships(self):
        for function in [reaches, rows_to]:
            self.assertIsNot(told(function, list(range(400))), NoOrder)
            self.assertIsNot(told(function, tuple(range(399, -1, -1))), NoOrder)

    def test_what_is_no_order(self):
        for order in no_orders():
            self.assertIs(told(reaches, order), NoOrder, str(type(order)))
            self.assertIs(told(rows_to, order), NoOrder, str(type(order)))

    def test_all_small_lists(self):
        for ships in range(1, 5):
            orders = list(permutations(range(ships)))
            for row in product(range(-1, ships + 1), repeat=ships):
                for function in [reaches, rows_to]:
                    self.assertEqual(told(function, row) is NoOrder, row not in orders)

    def test_what_is_handed_in_stays_and_what_is_told_is_the_askers(self):
        for order in [[0], [1, 3, 0, 2], [0, 0], [0, True], some_order(40, 9)]:
            for function in [reaches, rows_to]:
                handed = deepcopy(order)
                answer = told(function, handed)
                self.assertEqual(repr(handed), repr(order))
                shown = repr(answer)
                handed.reverse()
                handed.append(1)
                self.assertEqual(repr(answer), shown)
                if isinstance(answer, tuple) and answer[0] is list:
                    answer[1][0] = 7
                    answer[1].append(8)
                    self.assertEqual(repr(told(function, order)), shown)


if __name__ == "__main__":
    unittest.main()
