"""The names, the arguments and the files of the interface, and the classes of refusals."""

import importlib
import inspect
import unittest

from berthrow import errors
from berthrow.books import written
from berthrow.quays import Quay, Round

FUNCTIONS = {
    "berthrow.wishes": {
        "placed": ["berths", "wishes"],
        "taken": ["berths", "wishes"],
        "gone_on": ["berths", "wishes"],
        "is_good": ["berths", "wishes"],
        "crowded": ["berths", "wishes"],
    },
    "berthrow.rounds": {
        "placed_round": ["berths", "wishes"],
        "left_over": ["berths", "wishes"],
        "turned": ["berths", "wishes", "by"],
        "turning": ["berths", "wishes"],
    },
    "berthrow.rows": {
        "how_many": ["berths", "ships"],
        "first_row": ["berths", "ships"],
        "last_row": ["berths", "ships"],
        "next_row": ["berths", "wishes"],
    },
    "berthrow.trees": {
        "tree_of": ["wishes"],
        "wishes_of": ["tree"],
    },
    "berthrow.orders": {
        "lies": ["wishes"],
        "reaches": ["order"],
        "rows_to": ["order"],
    },
    "berthrow.books": {
        "written": ["quay"],
        "read": ["text"],
    },
}

METHODS = {
    "come": ["name", "wish"],
    "leave": ["name"],
    "where": ["name"],
    "all_ships": [],
    "free_ones": [],
    "size": [],
    "kind": [],
}

REFUSALS = [
    "NoQuay", "NoWishes", "TooMany", "NoCount", "NoTree", "NoOrder",
    "NoName", "Taken", "NoWish", "NoRoom", "NoShip", "NoText",
]

WORTH = {
    "berths": 3, "wishes": [1, 1], "by": 1, "ships": 2, "tree": [0, 1], "order": [1, 0],
    "quay": Quay(3), "text": "round 3\na 2\n", "name": "a", "wish": 2,
}


def comparable(answer):
    """A quay as its text, all else as it is."""
    if isinstance(answer, Quay):
        return written(answer)
    return answer


class TestInterface(unittest.TestCase):

    def test_functions_stand_in_their_files(self):
        for file, functions in FUNCTIONS.items():
            module = importlib.import_module(file)
            for name, arguments in functions.items():
                with self.subTest(file=file, name=name):
                    function = getattr(module, name)
                    self.assertEqual(function.__module__, file)
                    self.assertEqual(list(inspect.signature(function).parameters), arguments)

    def test_arguments_by_their_names(self):
        for file, functions in FUNCTIONS.items():
            module = importlib.import_module(file)
            for name, arguments in functions.items():
                with self.subTest(file=file, name=name):
                    function = getattr(module, name)
                    by_name = comparable(function(**{word: WORTH[word] for word in arguments}))
                    self.assertEqual(by_name, comparable(function(*[WORTH[word] for word in arguments])))

    def test_all_names_are_imported_from_their_files(self):
        from berthrow.books import read, written as told_text
        from berthrow.errors import (
            BerthError, NoCount, NoName, NoOrder, NoQuay, NoRoom, NoShip, NoText, NoTree, NoWish, NoWishes, Taken,
            TooMany,
        )
        from berthrow.orders import lies, reaches, rows_to
        from berthrow.quays import Quay as Straight, Round as Ring
        from berthrow.rounds import left_over, placed_round, turned, turning
        from berthrow.rows import first_row, how_many, last_row, next_row
        from berthrow.trees import tree_of, wishes_of
        from berthrow.wishes import crowded, gone_on, is_good, placed, taken
        for function in [
            read, told_text, lies, reaches, rows_to, left_over, placed_round, turned, turning, first_row, how_many,
            last_row, next_row, tree_of, wishes_of, crowded, gone_on, is_good, placed, taken,
        ]:
            self.assertTrue(inspect.isfunction(function))
        for made in [
            BerthError, NoCount, NoName, NoOrder, NoQuay, NoRoom, NoShip, NoText, NoTree, NoWish, NoWishes, Taken,
            TooMany, Straight, Ring,
        ]:
            self.assertTrue(inspect.isclass(made))

    def test_classes_stand_in_their_file(self):
        self.assertEqual((Quay.__module__, Round.__module__), ("berthrow.quays", "berthrow.quays"))
        self.assertEqual(Quay.__bases__, (object,))
        self.assertEqual(Round.__bases__, (Quay,))
        for made in [Quay, Round]:
            self.assertEqual(list(inspect.signature(made).parameters), ["berths"])
            self.assertEqual(made(berths=3).size(), 3)

    def test_methods_stand_in_each_class_itself(self):
        for made in [Quay, Round]:
            for name, arguments in METHODS.items():
                with self.subTest(made=made, name=name):
                    method = made.__dict__[name]
                    self.assertTrue(inspect.isfunction(method))
                    self.assertEqual(list(inspect.signature(method).parameters), ["self"] + arguments)

    def test_arguments_of_methods_by_their_names(self):
        for made in [Quay, Round]:
            by_name, by_place = made(3), made(3)
            for name, arguments in METHODS.items():
                for quay in [by_name, by_place]:
                    if name in ("leave", "where") and not quay.all_ships():
                        quay.come("a", 2)
                worth = {word: WORTH[word] for word in arguments}
                answer = getattr(by_name, name)(**worth)
                self.assertEqual(answer, getattr(by_place, name)(*list(worth.values())))

    def test_refusals_stand_right_under_the_one(self):
        self.assertEqual(errors.BerthError.__bases__, (ValueError,))
        self.assertEqual(errors.BerthError.__module__, "berthrow.errors")
        for name in REFUSALS:
            with self.subTest(name=name):
                refusal = getattr(errors, name)
                self.assertEqual(refusal.__name__, name)
                self.assertEqual(refusal.__bases__, (errors.BerthError,))
                self.assertEqual(refusal.__module__, "berthrow.errors")


if __name__ == "__main__":
    unittest.main()
