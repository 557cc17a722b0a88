"""The names, the arguments and the files of the interface, and the classes of refusals."""

import importlib
import inspect
import unittest

from berthrow import errors

FUNCTIONS = {
    "berthrow.wishes": {
        "placed": ["berths", "wishes"],
        "taken": ["berths", "wishes"],
        "gone_on": ["berths", "wishes"],
        "is_good": ["berths", "wishes"],
        "crowded": ["berths", "wishes"],
    },
    "berthrow.rounds": {
        "placed_round": ["berths", "wishes"],
        "left_over": ["berths", "wishes"],
        "turned": ["berths", "wishes", "by"],
        "turning": ["berths", "wishes"],
    },
    "berthrow.rows": {
        "how_many": ["berths", "ships"],
        "first_row": ["berths", "ships"],
        "last_row": ["berths", "ships"],
        "next_row": ["berths", "wishes"],
    },
}

REFUSALS = [
    "NoQuay", "NoWishes", "TooMany", "NoCount", "NoTree", "NoOrder",
    "NoName", "Taken", "NoWish", "NoRoom", "NoShip", "NoText",
]

WORTH = {"berths": 3, "wishes": [1, 1], "by": 1, "ships": 2}


class TestInterface(unittest.TestCase):

    def test_functions_stand_in_their_files(self):
        for file, functions in FUNCTIONS.items():
            module = importlib.import_module(file)
            for name, arguments in functions.items():
                with self.subTest(file=file, name=name):
                    function = getattr(module, name)
                    self.assertEqual(function.__module__, file)
                    self.assertEqual(list(inspect.signature(function).parameters), arguments)

    def test_arguments_by_their_names(self):
        for file, functions in FUNCTIONS.items():
            module = importlib.import_module(file)
            for name, arguments in functions.items():
                with self.subTest(file=file, name=name):
                    function = getattr(module, name)
                    by_name = function(**{word: WORTH[word] for word in arguments})
                    self.assertEqual(by_name, function(*[WORTH[word] for word in arguments]))

    def test_refusals_stand_right_under_the_one(self):
        self.assertEqual(errors.BerthError.__bases__, (ValueError,))
        self.assertEqual(errors.BerthError.__module__, "berthrow.errors")
        for name in REFUSALS:
            with self.subTest(name=name):
                refusal = getattr(errors, name)
                self.assertEqual(refusal.__name__, name)
                self.assertEqual(refusal.__bases__, (errors.BerthError,))
                self.assertEqual(refusal.__module__, "berthrow.errors")


if __name__ == "__main__":
    unittest.main()
