"""Point 4: spread."""

import unittest

from fewbuses.roads import spread
from tests.samples import RIDES, TRIPS, name, reckoned, seeded


class SpreadTest(unittest.TestCase):
    def test_rides_and_trips_one_behind_the_other(self):
        self.assertEqual(spread(RIDES, TRIPS, "a"), {"a": 0, "b": 10, "c": 15, "d": 22, "e": 52})
        self.assertEqual(spread(RIDES, TRIPS, "d"), {"d": 0, "e": 30, "a": 70, "b": 80, "c": 85})

    def test_the_place_itself_is_always_there(self):
        self.assertEqual(spread([], [], "a"), {"a": 0})
        self.assertEqual(spread(RIDES, TRIPS, "nowhere"), {"nowhere": 0})
        self.assertEqual(spread([("b", "a", 5)], [("c", 1, "a", 2)], "a"), {"a": 0})
        self.assertEqual(spread([], [("a", 1, "a", 5)], "a"), {"a": 0})

    def test_the_place_itself_takes_nothing_though_roads_lead_back(self):
        self.assertEqual(spread([("a", "b", 1), ("b", "a", 1)], [], "a"), {"a": 0, "b": 1})

    def test_a_road_leads_one_way_only(self):
        self.assertEqual(spread([("a", "b", 5)], [], "b"), {"b": 0})
        self.assertEqual(spread([], [("a", 5, "b", 9)], "b"), {"b": 0})

    def test_the_two_ways_may_take_unlike_minutes(self):
        rides = [("a", "b", 5), ("b", "a", 9)]
        self.assertEqual(spread(rides, [], "a"), {"a": 0, "b": 5})
        self.assertEqual(spread(rides, [], "b"), {"b": 0, "a": 9})

    def test_a_place_that_a_ride_alone_tells_of(self):
        self.assertEqual(spread([("a", "b", 3)], [("c", 1, "d", 9)], "a"), {"a": 0, "b": 3})

    def test_a_place_that_a_trip_alone_tells_of(self):
        self.assertEqual(spread([("a", "b", 3)], [("c", 1, "d", 9)], "c"), {"c": 0, "d": 8})

    def test_trips_are_roads_at_any_time(self):
        trips = [("a", 500, "b", 510), ("b", 100, "c", 120)]
        self.assertEqual(spread([], trips, "a"), {"a": 0, "b": 10, "c": 30})

    def test_several_roads_may_be_quicker_than_one(self):
        rides = [("a", "d", 100), ("a", "b", 1), ("b", "c", 1), ("c", "d", 97)]
        self.assertEqual(spread(rides, [], "a"), {"a": 0, "b": 1, "c": 2, "d": 99})

    def test_one_road_may_be_quicker_than_several(self):
        rides = [("a", "b", 50), ("b", "c", 50), ("a", "c", 99)]
        self.assertEqual(spread(rides, [], "a"), {"a": 0, "b": 50, "c": 99})

    def test_of_roads_between_the_same_two_the_quickest_counts(self):
        self.assertEqual(spread([("a", "b", 9), ("a", "b", 4), ("a", "b", 7)], [], "a")["b"], 4)
        self.assertEqual(spread([("a", "b", 4), ("a", "b", 9)], [("a", 1, "b", 4)], "a")["b"], 3)
        self.assertEqual(spread([("a", "b", 2)], [("a", 1, "b", 4)], "a")["b"], 2)
        self.assertEqual(spread([("a", "b", 5)] * 30, [("a", 1, "b", 6)] * 40, "a"), {"a": 0, "b": 5})

    def test_the_least_and_the_most_minutes(self):
        self.assertEqual(spread([("a", "b", 1), ("b", "c", 9999)], [], "a"), {"a": 0, "b": 1, "c": 10000})
        trips = [("a", 0, "b", 99999), ("b", 0, "c", 99999), ("c", 99998, "d", 99999)]
        self.assertEqual(spread([], trips, "a"), {"a": 0, "b": 99999, "c": 199998, "d": 199999})

    def test_names_of_one_and_twelve_letters(self):
        self.assertEqual(spread([("a", "abcdefghijkl", 4)], [], "a"), {"a": 0, "abcdefghijkl": 4})
        self.assertEqual(spread([("abcdefghijkl", "a", 4)], [], "abcdefghijkl"), {"abcdefghijkl": 0, "a": 4})

    def test_a_chain_of_thirty_rides_and_forty_trips(self):
        rides = [(name(at), name(at + 1), 9999) for at in range(30)]
        trips = [(name(at), 0, name(at + 1), 99999) for at in range(30, 70)]
        told = {name(at): at * 9999 for at in range(31)}
        for at in range(31, 71):
            told[name(at)] = 30 * 9999 + (at - 30) * 99999
        self.assertEqual(spread(rides, trips, name(0)), told)
        self.assertEqual(spread(rides[::-1], trips[::-1], name(0)), told)
        self.assertEqual(spread(rides, trips, name(70)), {name(70): 0})

    def test_the_answer_is_a_dict_of_names_and_whole_numbers(self):
        told = spread(RIDES, TRIPS, "a")
        self.assertIs(type(told), dict)
        for there, minutes in told.items():
            self.assertEqual((type(there), type(minutes)), (str, int))

    def test_seeded_roads_against_a_plain_reckoning(self):
        for seed in range(150):
            rides, trips, places = seeded(seed, 30 - seed % 31, 40 - seed % 41, 3 + seed % 38)
            for place in places:
                self.assertEqual(spread(rides, trips, place), reckoned(rides, trips, place))


if __name__ == "__main__":
    unittest.main()
