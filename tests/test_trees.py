"""Point 7: full rows and their trees."""

import unittest
from copy import deepcopy
from itertools import product

from berthrow.errors import NoTree, NoWishes
from berthrow.rows import how_many
from berthrow.trees import tree_of, wishes_of
from plain import good_lists, mixed, no_full_rows, no_trees, told


def come_to_in(tree):
    """The knots in the order in which they are come to."""
    order = [0]
    for _ in tree:
        for above in list(order):
            lower = [knot + 1 for knot, other in enumerate(tree) if other == above]
            if not set(lower) <= set(order):
                order.extend(lower)
                break
    return order


def tree_by_text(wishes):
    """The tree, knot by knot as the document has it."""
    order = [0]
    above = {}
    for berth in range(1, len(wishes) + 1):
        lower = [ship + 1 for ship, wish in enumerate(wishes) if wish == berth]
        for knot in lower:
            above[knot] = order[berth - 1]
        order = order + lower
    return tuple(above[knot] for knot in range(1, len(wishes) + 1))


def hangs_on_root(tree):
    for knot in range(1, len(tree) + 1):
        for _ in tree:
            knot = tree[knot - 1] if knot else 0
        if knot:
            return False
    return True


def full_row(ships, seed):
    """A full row of so many ships that follows no plain pattern."""
    heights = [min(wish, place + 1) for place, wish in enumerate(mixed(ships, ships, seed))]
    places = sorted(range(ships), key=lambda at: mixed(1000, ships, seed + 50)[at])
    return [heights[at] for at in places]


LARGE = [full_row(ships, seed) for ships in [6, 30, 89, 90] for seed in range(3)] + [
    [1] * 90, list(range(1, 91)), list(range(90, 0, -1)), [1] + list(range(1, 90)), [1] * 45 + [46] * 45,
]


class TestTreeOf(unittest.TestCase):

    def test_by_hand(self):
        self.assertEqual(tree_of([1]), (0,))
        self.assertEqual(tree_of([1, 1]), (0, 0))
        self.assertEqual(tree_of([1, 2]), (0, 1))
        self.assertEqual(tree_of([2, 1]), (2, 0))
        # Root 0, then knots 2 and 4 below it, then knot 3 below 2, then knot 1 below 4.
        self.assertEqual(tree_of([3, 1, 2, 1]), (4, 0, 2, 0))
        self.assertEqual(tree_of((4, 1, 2, 1)), (3, 0, 2, 0))

    def test_knots_below_one_rise_and_are_come_to_by_their_knots_turn(self):
        # Knots 1 and 3 below the root; 4 below 1, 2 below 3; 4 is come to ahead of 2.
        self.assertEqual(tree_of([1, 3, 1, 2, 4]), (0, 3, 0, 1, 4))

    def test_all_full_rows_of_few_ships(self):
        for ships in range(1, 6):
            trees = set()
            for row in good_lists(ships, ships):
                tree = tree_of(row)
                self.assertIs(type(tree), tuple)
                self.assertEqual([type(knot) for knot in tree], [int] * ships)
                self.assertEqual(tree, tree_by_text(row))
                self.assertEqual(tree_of(tuple(row)), tree)
                trees.add(tree)
                self.assertEqual(wishes_of(tree), tuple(row))
                self.assertEqual(wishes_of(list(tree)), tuple(row))
            self.assertEqual(len(trees), how_many(ships, ships))

    def test_up_to_90_ships(self):
        for row in LARGE:
            tree = tree_of(row)
            self.assertEqual(tree, tree_by_text(row))
            self.assertEqual(wishes_of(tree), tuple(row))

    def test_the_ships_of_a_berth_are_below_its_knot(self):
        for row in LARGE:
            tree = tree_of(row)
            for berth, above in enumerate(come_to_in(tree)):
                wishing = [ship for ship, wish in enumerate(row) if wish == berth + 1]
                self.assertEqual([ship for ship, knot in enumerate(tree) if knot == above], wishing)

    def test_what_is_no_full_row(self):
        for row in no_full_rows():
            self.assertIs(told(tree_of, row), NoWishes, str(type(row)))

    def test_all_lists_of_few_wishes(self):
        for ships in range(1, 5):
            good = good_lists(ships, ships)
            for row in product(range(0, ships + 2), repeat=ships):
                self.assertEqual(told(tree_of, row) is NoWishes, list(row) not in good)

    def test_what_is_handed_in_stays(self):
        for row in [[1], [3, 1, 2, 1], [2, 2], [1, True], full_row(90, 7)]:
            handed = deepcopy(row)
            answer = told(tree_of, handed)
            self.assertEqual(repr(handed), repr(row))
            shown = repr(answer)
            handed.append(1)
            handed[0] = 9
            self.assertEqual(repr(answer), shown)
            self.assertEqual(repr(told(tree_of, row)), shown)


class TestWishesOf(unittest.TestCase):

    def test_by_hand(self):
        self.assertEqual(wishes_of([0]), (1,))
        self.assertEqual(wishes_of((0, 0)), (1, 1))
        self.assertEqual(wishes_of((0, 1)), (1, 2))
        self.assertEqual(wishes_of([2, 0]), (2, 1))
        self.assertEqual(wishes_of((4, 0, 2, 0)), (3, 1, 2, 1))
        self.assertEqual(wishes_of((3, 0, 2, 0)), (4, 1, 2, 1))

    def test_all_trees_of_few_knots(self):
        for ships in range(1, 6):
            rows = set()
            for tree in product(range(0, ships + 1), repeat=ships):
                if not hangs_on_root(tree):
                    self.assertIs(told(wishes_of, tree), NoTree, tree)
                    self.assertIs(told(wishes_of, list(tree)), NoTree, tree)
                    continue
                row = wishes_of(tree)
                self.assertIs(type(row), tuple)
                self.assertEqual([type(wish) for wish in row], [int] * ships)
                self.assertEqual(tree_of(row), tree)
                self.assertEqual(wishes_of(list(tree)), row)
                rows.add(row)
            self.assertEqual(rows, {tuple(row) for row in good_lists(ships, ships)})

    def test_trees_of_up_to_90_ships(self):
        trees = [[0] * 90, list(range(90)), list(range(2, 91)) + [0], [90] * 89 + [0]]
        for seed in range(3):
            trees.append([wish % (place + 1) for place, wish in enumerate(mixed(400, 90, seed))])
        for tree in trees:
            row = wishes_of(tree)
            self.assertEqual(tree_of(row), tuple(tree))
            self.assertEqual(tree_by_text(row), tuple(tree))

    def test_what_is_no_tree(self):
        for tree in no_trees():
            self.assertIs(told(wishes_of, tree), NoTree, str(type(tree)))

    def test_rings_in_trees_of_many_knots(self):
        for ships in [10, 90, 91, 400]:
            ring = [0] * (ships - 3) + [ships - 1, ships, ships - 2]
            self.assertIs(told(wishes_of, ring), NoTree)
            self.assertIs(told(wishes_of, [0] * (ships - 1) + [ships]), NoTree)
            self.assertIs(told(wishes_of, [ships] + list(range(1, ships))), NoTree)

    def test_400_ships_are_not_refused(self):
        for row in [[1] * 400, list(range(400, 0, -1)), list(range(1, 401))]:
            self.assertIsNot(told(tree_of, row), NoWishes)
        for tree in [[0] * 400, list(range(400)), list(range(2, 401)) + [0]]:
            self.assertIsNot(told(wishes_of, tree), NoTree)

    def test_a_list_that_holds_itself(self):
        tree = [0]
        tree.append(tree)
        self.assertIs(told(wishes_of, tree), NoTree)
        self.assertIs(told(tree_of, tree), NoWishes)

    def test_what_is_handed_in_stays(self):
        for tree in [[0], [4, 0, 2, 0], [2, 1], [0, True], [0] * 90]:
            handed = deepcopy(tree)
            answer = told(wishes_of, handed)
            self.assertEqual(repr(handed), repr(tree))
            shown = repr(answer)
            handed.append(1)
            handed[0] = 9
            self.assertEqual(repr(answer), shown)
            self.assertEqual(repr(told(wishes_of, tree)), shown)


if __name__ == "__main__":
    unittest.main()
