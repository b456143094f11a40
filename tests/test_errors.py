"""The refusals, as the interface lists them."""

import unittest

from fewbuses import errors
from fewbuses.errors import BusError, NoNumber, NoPlace, NoRide, NoTrip, NotInTime

REFUSALS = [NoRide, NoTrip, NoPlace, NoNumber, NotInTime]


class ErrorsTest(unittest.TestCase):
    def test_bus_error_is_a_value_error(self):
        self.assertEqual(BusError.__bases__, (ValueError,))

    def test_each_refusal_is_a_bus_error_and_a_value_error(self):
        for refused in REFUSALS:
            self.assertTrue(issubclass(refused, BusError), refused)
            self.assertTrue(issubclass(refused, ValueError), refused)
            self.assertEqual(refused.__bases__, (BusError,))

    def test_none_stands_under_another(self):
        for one in REFUSALS:
            for other in REFUSALS:
                self.assertEqual(issubclass(one, other), one is other, (one, other))
            self.assertFalse(issubclass(BusError, one))

    def test_all_stand_in_their_file_under_their_names(self):
        for told in ["BusError", "NoRide", "NoTrip", "NoPlace", "NoNumber", "NotInTime"]:
            found = getattr(errors, told)
            self.assertEqual((found.__name__, found.__module__), (told, "fewbuses.errors"))

    def test_each_can_be_raised_and_caught_as_a_bus_error(self):
        for refused in REFUSALS + [BusError]:
            with self.assertRaises(BusError):
                raise refused("why")
            with self.assertRaises(ValueError):
                raise refused("why")


if __name__ == "__main__":
    unittest.main()
