"""The interface: each name stands in its file, and arguments go by their places."""

import inspect
import unittest

from fewbuses import plans as plans_file
from fewbuses import roads as roads_file
from fewbuses import turns as turns_file

FUNCTIONS = [
    (roads_file, "roads", ["rides", "trips"]),
    (roads_file, "spread", ["rides", "trips", "place"]),
    (roads_file, "way", ["rides", "trips", "one", "other"]),
    (turns_file, "can", ["rides", "trips", "one", "other"]),
    (turns_file, "day", ["rides", "trips", "row"]),
    (plans_file, "plan", ["rides", "trips"]),
    (plans_file, "holds", ["rides", "trips", "rows", "apart"]),
]


class InterfaceTest(unittest.TestCase):
    def test_each_function_is_defined_in_its_file(self):
        for where, told, _ in FUNCTIONS:
            self.assertTrue(inspect.isfunction(getattr(where, told)), told)
            self.assertEqual(getattr(where, told).__module__, where.__name__)

    def test_each_function_takes_its_arguments(self):
        for where, told, arguments in FUNCTIONS:
            taken = inspect.signature(getattr(where, told)).parameters
            self.assertEqual(list(taken), arguments)


if __name__ == "__main__":
    unittest.main()
