"""Point 7: day."""

import unittest

from fewbuses.errors import NoNumber, NotInTime
from fewbuses.plans import plan
from fewbuses.turns import can, day
from tests.samples import RIDES, TRIPS, followers, quickest_roads, reckoned, refusal, seeded


class DayTest(unittest.TestCase):
    def test_the_stops_of_two_trips(self):
        told = [("e", 0), ("a", 40), ("b", 50), ("c", 55), ("d", 62), ("d", 100), ("e", 130)]
        self.assertEqual(day(RIDES, TRIPS, [1, 0]), told)

    def test_of_no_trips_it_is_empty(self):
        self.assertEqual(day(RIDES, TRIPS, []), [])
        self.assertEqual(day([], [], []), [])

    def test_of_one_trip_it_is_where_that_begins_and_ends(self):
        self.assertEqual(day(RIDES, TRIPS, [0]), [("d", 100), ("e", 130)])
        self.assertEqual(day(RIDES, TRIPS, [2]), [("b", 10), ("b", 60)])
        self.assertEqual(day([], [("a", 0, "b", 99999)], [0]), [("a", 0), ("b", 99999)])

    def test_nothing_lies_between_where_the_next_trip_begins_there(self):
        trips = [("a", 0, "b", 10), ("b", 10, "c", 20), ("c", 30, "c", 40)]
        self.assertEqual(day([], trips, [0, 1]), [("a", 0), ("b", 10), ("b", 10), ("c", 20)])
        told = [("a", 0), ("b", 10), ("b", 10), ("c", 20), ("c", 30), ("c", 40)]
        self.assertEqual(day([], trips, [0, 1, 2]), told)

    def test_a_bus_just_in_time_is_told_of_twice(self):
        trips = [("a", 0, "b", 10), ("c", 15, "d", 20)]
        told = [("a", 0), ("b", 10), ("c", 15), ("c", 15), ("d", 20)]
        self.assertEqual(day([("b", "c", 5)], trips, [0, 1]), told)

    def test_a_bus_that_is_early_goes_at_once_and_waits_where_the_next_trip_begins(self):
        trips = [("a", 0, "b", 10), ("e", 900, "f", 901)]
        rides = [("b", "c", 5), ("c", "d", 6), ("d", "e", 7)]
        told = [("a", 0), ("b", 10), ("c", 15), ("d", 21), ("e", 28), ("e", 900), ("f", 901)]
        self.assertEqual(day(rides, trips, [0, 1]), told)

    def test_a_minute_late_is_not_in_time(self):
        trips = [("a", 0, "b", 10), ("c", 14, "d", 20)]
        self.assertIs(refusal(day, [("b", "c", 5)], trips, [0, 1]), NotInTime)
        self.assertIs(refusal(day, [("b", "c", 4)], trips, [0, 1]), None)
        self.assertIs(refusal(day, [], [("a", 0, "b", 10), ("b", 9, "c", 20)], [0, 1]), NotInTime)
        self.assertIs(refusal(day, [], trips, [0, 1]), NotInTime)

    def test_the_quickest_of_several_roads_between_two_places(self):
        trips = [("a", 0, "b", 10), ("d", 90, "e", 91), ("b", 500, "c", 504)]
        rides = [("b", "c", 9), ("b", "c", 5), ("b", "c", 7), ("c", "d", 30), ("c", "d", 20)]
        told = [("a", 0), ("b", 10), ("c", 14), ("d", 34), ("d", 90), ("e", 91)]
        self.assertEqual(day(rides, trips, [0, 1]), told)
        self.assertEqual(day(rides, trips[:2], [0, 1])[2:4], [("c", 15), ("d", 35)])

    def test_a_bus_may_go_by_the_road_of_a_trip_at_other_times(self):
        trips = [("a", 0, "b", 10), ("b", 200, "c", 230), ("c", 40, "a", 60), ("c", 39, "a", 60)]
        self.assertEqual(day([], trips, [0, 2])[2:4], [("c", 40), ("c", 40)])
        self.assertIs(refusal(day, [], trips, [0, 3]), NotInTime)

    def test_a_way_through_where_the_bus_was(self):
        trips = [("a", 0, "b", 10), ("c", 60, "d", 70)]
        rides = [("b", "a", 20), ("a", "c", 9)]
        told = [("a", 0), ("b", 10), ("a", 30), ("c", 39), ("c", 60), ("d", 70)]
        self.assertEqual(day(rides, trips, [0, 1]), told)

    def test_of_several_least_ways_one_is_told(self):
        trips = [("x", 0, "a", 10), ("d", 60, "x", 70)]
        rides = [("a", "b", 5), ("a", "c", 6), ("b", "d", 6), ("c", "d", 5)]
        told = day(rides, trips, [0, 1])
        self.assertIn(told[2], [("b", 15), ("c", 16)])
        self.assertEqual(told[:2] + told[3:], [("x", 0), ("a", 10), ("d", 21), ("d", 60), ("x", 70)])

    def test_a_trip_told_twice_is_not_done_twice(self):
        trips = [("a", 0, "a", 10), ("a", 0, "a", 10), ("a", 10, "a", 20)]
        self.assertIs(refusal(day, [], trips, [0, 0]), NotInTime)
        self.assertIs(refusal(day, [], trips, [0, 1]), NotInTime)
        self.assertIs(refusal(day, [], trips, [1, 0, 2]), NotInTime)
        self.assertEqual(day([], trips, [1, 2]), [("a", 0), ("a", 10), ("a", 10), ("a", 20)])

    def test_each_trip_of_the_row_is_asked_for_in_its_turn(self):
        trips = [("a", 0, "a", 10), ("a", 10, "a", 20), ("a", 20, "a", 30)]
        self.assertEqual(len(day([], trips, [0, 1, 2])), 6)
        self.assertEqual(len(day([], trips, [0, 2])), 4)
        for row in ([0, 2, 1], [1, 0, 2], [2, 1, 0], [0, 1, 1], [1, 0], [0, 1, 2, 0]):
            self.assertIs(refusal(day, [], trips, row), NotInTime, row)

    def test_numbers_are_refused_ahead_of_what_is_not_in_time(self):
        for row in ([0, 0, 9], [9, 0, 0], [0, 9, 0], [1, 0, True], [0, 0, -1], [0, 0, "a"]):
            self.assertIs(refusal(day, RIDES, TRIPS, row), NoNumber, row)

    def test_the_stops_are_pairs_of_a_name_and_a_number(self):
        told = day(RIDES, TRIPS, [1, 0])
        self.assertIs(type(told), list)
        self.assertEqual({type(stop) for stop in told}, {tuple})
        self.assertEqual({(type(place), type(minute)) for place, minute in told}, {(str, int)})

    def test_seeded_pairs_of_trips_against_a_plain_reckoning(self):
        for seed in range(40):
            rides, trips, _ = seeded(seed, seed % 31, 1 + seed % 12, 3 + seed % 9)
            pairs = followers(rides, trips)
            for one in range(len(trips)):
                for other in range(len(trips)):
                    if (one, other) in pairs:
                        self.check_day(rides, trips, [one, other])
                    else:
                        self.assertIs(refusal(day, rides, trips, [one, other]), NotInTime)

    def test_seeded_rows_of_forty_trips(self):
        for seed in range(10):
            rides, trips, _ = seeded(seed, 30, 40, 4 + seed)
            for row in plan(rides, trips)[0]:
                self.check_day(rides, trips, row)
                if len(row) > 1:
                    self.assertIs(refusal(day, rides, trips, row[::-1]), NotInTime)
                    self.assertFalse(can(rides, trips, row[1], row[0]))

    def check_day(self, rides, trips, row):
        quickest = quickest_roads(rides, trips)
        left = day(rides, trips, row)
        for at, number in enumerate(row):
            start, begin, goal, end = trips[number]
            if at > 0:
                last = trips[row[at - 1]]
                here, minute = last[2], last[3]
                while here != start:
                    stop = left.pop(0)
                    self.assertEqual(stop[1], minute + quickest[here, stop[0]])
                    here, minute = stop
                self.assertEqual(minute, last[3] + reckoned(rides, trips, last[2])[start])
                self.assertLessEqual(minute, begin)
            self.assertEqual([left.pop(0), left.pop(0)], [(start, begin), (goal, end)])
        self.assertEqual(left, [])


if __name__ == "__main__":
    unittest.main()
