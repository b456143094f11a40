"""Points 1 and 2: nothing handed in is changed, and each answer is new and the asker's own."""

import copy
import unittest

from fewbuses.roads import roads, spread, way
from tests.samples import ASKERS, RIDES, TRIPS, refusal


class HandedInTest(unittest.TestCase):
    def test_what_is_handed_in_stays_as_it_was(self):
        for told, ask in ASKERS.items():
            rides, trips = list(RIDES), list(TRIPS)
            ask(rides, trips)
            self.assertEqual((rides, trips), (RIDES, TRIPS), told)

    def test_what_is_refused_stays_as_it_was(self):
        wrong_ride = [["a"], "b", {"c": [1]}]
        wrong_trip = (["a"], 1, "b", [2])
        for told, ask in ASKERS.items():
            rides, trips = RIDES + [wrong_ride], TRIPS + [wrong_trip]
            before = copy.deepcopy((rides, trips))
            self.assertIsNotNone(refusal(ask, rides, trips))
            self.assertEqual((rides, trips), before, told)
            self.assertIsNotNone(refusal(ask, RIDES, trips))
            self.assertEqual((rides, trips), before, told)


class AnswerTest(unittest.TestCase):
    def test_an_answer_of_roads_is_new(self):
        rides, trips = list(RIDES), list(TRIPS)
        first = roads(rides, trips)
        kept = list(first)
        first.append(("x", "y", 1))
        first.reverse()
        del first[0:3]
        self.assertEqual((rides, trips), (RIDES, TRIPS))
        self.assertEqual(roads(rides, trips), kept)
        self.assertEqual(spread(rides, trips, "a"), {"a": 0, "b": 10, "c": 15, "d": 22, "e": 52})

    def test_roads_of_rides_alone_is_new(self):
        rides = list(RIDES)
        told = roads(rides, [])
        self.assertIsNot(told, rides)
        told.clear()
        self.assertEqual(rides, RIDES)

    def test_roads_of_nothing_is_new(self):
        rides, trips = [], []
        told = roads(rides, trips)
        told.append(("x", "y", 1))
        self.assertEqual((rides, trips), ([], []))
        self.assertEqual(roads([], []), [])

    def test_an_answer_of_spread_is_new(self):
        rides, trips = list(RIDES), list(TRIPS)
        first = spread(rides, trips, "a")
        kept = dict(first)
        first["b"] = 1000
        first["x"] = 1
        del first["a"]
        self.assertEqual((rides, trips), (RIDES, TRIPS))
        self.assertEqual(spread(rides, trips, "a"), kept)
        self.assertEqual(way(rides, trips, "a", "b"), ["a", "b"])

    def test_an_answer_of_way_is_new(self):
        rides, trips = list(RIDES), list(TRIPS)
        first = way(rides, trips, "a", "d")
        kept = list(first)
        first.reverse()
        first.append("x")
        self.assertEqual((rides, trips), (RIDES, TRIPS))
        self.assertEqual(way(rides, trips, "a", "d"), kept)
        alone = way([], [], "a", "a")
        alone.append("x")
        self.assertEqual(way([], [], "a", "a"), ["a"])

    def test_what_is_changed_later_changes_no_earlier_answer(self):
        rides, trips = list(RIDES), list(TRIPS)
        told = [roads(rides, trips), spread(rides, trips, "a"), way(rides, trips, "a", "e")]
        kept = copy.deepcopy(told)
        rides.clear()
        trips.append(("a", 1, "e", 2))
        roads(rides, trips)
        spread(rides, trips, "a")
        way(rides, trips, "a", "e")
        self.assertEqual(told, kept)

    def test_lists_that_the_asker_changed_are_looked_at_anew(self):
        rides, trips = list(RIDES), list(TRIPS)
        self.assertEqual(spread(rides, trips, "a")["e"], 52)
        trips.append(("a", 1, "e", 2))
        self.assertEqual(spread(rides, trips, "a")["e"], 1)
        self.assertEqual(way(rides, trips, "a", "e"), ["a", "e"])
        self.assertEqual(roads(rides, trips)[-1], ("a", "e", 1))

    def test_two_answers_are_never_the_same_object(self):
        for told, ask in ASKERS.items():
            self.assertIsNot(ask(RIDES, TRIPS), ask(RIDES, TRIPS), told)


if __name__ == "__main__":
    unittest.main()
