"""Point 5: way."""

import unittest

from fewbuses.roads import way
from tests.samples import RIDES, TRIPS, name, quickest_roads, reckoned, seeded


class WayTest(unittest.TestCase):
    def test_rides_and_trips_one_behind_the_other(self):
        self.assertEqual(way(RIDES, TRIPS, "a", "e"), ["a", "b", "c", "d", "e"])
        self.assertEqual(way(RIDES, TRIPS, "d", "c"), ["d", "e", "a", "b", "c"])

    def test_both_places_are_told(self):
        self.assertEqual(way(RIDES, TRIPS, "a", "b"), ["a", "b"])
        self.assertEqual(way([], [("a", 7, "b", 9)], "a", "b"), ["a", "b"])

    def test_of_a_place_and_itself_it_is_that_place(self):
        self.assertEqual(way(RIDES, TRIPS, "a", "a"), ["a"])
        self.assertEqual(way([], [], "a", "a"), ["a"])
        self.assertEqual(way(RIDES, TRIPS, "nowhere", "nowhere"), ["nowhere"])
        self.assertEqual(way([("a", "b", 1), ("b", "a", 1)], [("a", 1, "a", 2)], "a", "a"), ["a"])

    def test_where_there_is_none_it_is_none(self):
        self.assertIsNone(way([], [], "a", "b"))
        self.assertIsNone(way(RIDES, [], "b", "a"))
        self.assertIsNone(way([], [("a", 7, "b", 9)], "b", "a"))
        self.assertIsNone(way(RIDES, TRIPS, "a", "nowhere"))
        self.assertIsNone(way(RIDES, TRIPS, "nowhere", "a"))
        self.assertIsNone(way([("a", "b", 3)], [("c", 1, "d", 9)], "a", "d"))
        self.assertIsNone(way([], [("a", 1, "a", 2), ("b", 1, "b", 2)], "a", "b"))

    def test_several_roads_that_are_quicker_than_one(self):
        rides = [("a", "d", 100), ("a", "b", 1), ("b", "c", 1), ("c", "d", 97)]
        self.assertEqual(way(rides, [], "a", "d"), ["a", "b", "c", "d"])
        self.assertEqual(way(rides, [("a", 0, "d", 98)], "a", "d"), ["a", "d"])

    def test_one_road_that_is_quicker_than_several(self):
        rides = [("a", "b", 50), ("b", "c", 50), ("a", "c", 99)]
        self.assertEqual(way(rides, [], "a", "c"), ["a", "c"])

    def test_of_several_least_ways_one_is_told(self):
        rides = [("a", "b", 5), ("a", "c", 5), ("b", "d", 5), ("c", "d", 5)]
        self.assertIn(way(rides, [], "a", "d"), [["a", "b", "d"], ["a", "c", "d"]])

    def test_the_least_and_the_most_minutes(self):
        rides = [("a", "b", 1), ("b", "c", 1), ("a", "c", 3), ("c", "d", 9999)]
        self.assertEqual(way(rides, [("a", 0, "d", 99999)], "a", "d"), ["a", "b", "c", "d"])

    def test_names_of_one_and_twelve_letters(self):
        rides = [("a", "abcdefghijkl", 4), ("abcdefghijkl", "z", 4)]
        self.assertEqual(way(rides, [], "a", "z"), ["a", "abcdefghijkl", "z"])
        self.assertEqual(way(rides, [], "abcdefghijkl", "z"), ["abcdefghijkl", "z"])
        self.assertEqual(way(rides, [], "a", "abcdefghijkl"), ["a", "abcdefghijkl"])

    def test_roads_told_several_times(self):
        self.assertEqual(way([("a", "b", 5)] * 30, [("b", 1, "c", 6)] * 40, "a", "c"), ["a", "b", "c"])

    def test_a_chain_of_thirty_rides_and_forty_trips(self):
        rides = [(name(at), name(at + 1), 9999) for at in range(30)]
        trips = [(name(at), 0, name(at + 1), 99999) for at in range(30, 70)]
        told = [name(at) for at in range(71)]
        self.assertEqual(way(rides, trips, name(0), name(70)), told)
        self.assertEqual(way(rides[::-1], trips[::-1], name(0), name(70)), told)
        self.assertIsNone(way(rides, trips, name(70), name(0)))

    def test_the_answer_is_a_list_of_names(self):
        told = way(RIDES, TRIPS, "a", "e")
        self.assertIs(type(told), list)
        self.assertEqual({type(place) for place in told}, {str})

    def test_seeded_roads_against_a_plain_reckoning(self):
        for seed in range(60):
            rides, trips, places = seeded(seed, 30 - seed % 31, 40 - seed % 41, 3 + seed % 20)
            quickest = quickest_roads(rides, trips)
            for one in places:
                least = reckoned(rides, trips, one)
                for other in places:
                    told = way(rides, trips, one, other)
                    if other in least:
                        self.check_way(told, one, other, quickest, least[other])
                    else:
                        self.assertIsNone(told)

    def check_way(self, told, one, other, quickest, least):
        self.assertEqual((told[0], told[-1]), (one, other))
        self.assertEqual(len(told), len(set(told)))
        self.assertEqual(sum(quickest[pair] for pair in zip(told, told[1:])), least)


if __name__ == "__main__":
    unittest.main()
