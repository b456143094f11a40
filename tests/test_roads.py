"""Point 3: roads."""

import unittest

from fewbuses.roads import roads
from tests.samples import RIDES, TRIPS, name, seeded


class RoadsTest(unittest.TestCase):
    def test_rides_first_and_then_what_trips_take(self):
        self.assertEqual(roads(RIDES, TRIPS), RIDES + [("d", "e", 30), ("e", "a", 40)])

    def test_of_nothing_it_is_empty(self):
        self.assertEqual(roads([], []), [])

    def test_rides_alone_stay_as_told(self):
        self.assertEqual(roads(RIDES, []), RIDES)

    def test_trips_alone(self):
        self.assertEqual(roads([], TRIPS), [("d", "e", 30), ("e", "a", 40)])

    def test_trips_that_end_where_they_begin_make_no_road(self):
        self.assertEqual(roads([], [("a", 0, "a", 99999)]), [])
        self.assertEqual(roads([], [("a", 1, "a", 2), ("a", 3, "b", 7), ("b", 1, "b", 2)]), [("a", "b", 4)])

    def test_what_is_told_several_times_stays_so(self):
        rides = [("a", "b", 5), ("a", "b", 5), ("a", "b", 3)]
        trips = [("a", 10, "b", 15), ("a", 20, "b", 25), ("a", 10, "b", 15)]
        self.assertEqual(roads(rides, trips), rides + [("a", "b", 5)] * 3)

    def test_the_order_is_that_of_the_lists(self):
        rides = [("z", "y", 9), ("a", "b", 1), ("y", "z", 2)]
        trips = [("q", 50, "p", 60), ("b", 0, "a", 3), ("p", 20, "q", 21)]
        told = [("q", "p", 10), ("b", "a", 3), ("p", "q", 1)]
        self.assertEqual(roads(rides, trips), rides + told)

    def test_a_trip_may_take_longer_than_any_ride(self):
        self.assertEqual(roads([], [("a", 0, "b", 99999)]), [("a", "b", 99999)])
        self.assertEqual(roads([], [("a", 99998, "b", 99999)]), [("a", "b", 1)])

    def test_names_of_one_and_twelve_letters(self):
        rides = [("a", "abcdefghijkl", 1), ("abcdefghijkl", "a", 9999)]
        self.assertEqual(roads(rides, [("a", 5, "abcdefghijkl", 8)]), rides + [("a", "abcdefghijkl", 3)])

    def test_sixty_rides_and_sixty_trips(self):
        rides = [(name(at), name(at + 1), at + 1) for at in range(60)]
        trips = [(name(at + 100), at, name(at + 101), at * 2 + 1) for at in range(60)]
        told = [(name(at + 100), name(at + 101), at + 1) for at in range(60)]
        self.assertEqual(roads(rides, trips), rides + told)

    def test_the_answer_is_a_list_of_tuples(self):
        told = roads(RIDES, TRIPS)
        self.assertIs(type(told), list)
        for road in told:
            self.assertIs(type(road), tuple)
            self.assertEqual([type(part) for part in road], [str, str, int])

    def test_seeded_lists(self):
        for seed in range(40):
            rides, trips, _ = seeded(seed, 60, 60, 5)
            told = [(one, other, end - begin) for one, begin, other, end in trips if one != other]
            self.assertEqual(roads(rides, trips), rides + told)


if __name__ == "__main__":
    unittest.main()
