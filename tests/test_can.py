"""Point 6: can."""

import unittest

from fewbuses.turns import can
from tests.samples import RIDES, TRIPS, followers, seeded


class CanTest(unittest.TestCase):
    def test_one_behind_the_other(self):
        self.assertIs(can(RIDES, TRIPS, 1, 0), True)
        self.assertIs(can(RIDES, TRIPS, 2, 0), True)
        self.assertIs(can(RIDES, TRIPS, 0, 1), False)
        self.assertIs(can(RIDES, TRIPS, 1, 2), False)

    def test_where_the_first_ends_the_second_begins(self):
        for begin, told in [(39, False), (40, True), (41, True)]:
            trips = [("a", 10, "b", 40), ("b", begin, "c", 60)]
            self.assertIs(can([], trips, 0, 1), told)
            self.assertIs(can(RIDES, trips, 0, 1), told)

    def test_just_in_time_and_a_minute_late_by_a_ride(self):
        for minutes, told in [(19, True), (20, True), (21, False)]:
            trips = [("a", 10, "b", 40), ("c", 60, "d", 70)]
            self.assertIs(can([("b", "c", minutes)], trips, 0, 1), told)

    def test_just_in_time_and_a_minute_late_by_several_rides(self):
        for minutes, told in [(9, True), (10, True), (11, False)]:
            rides = [("b", "c", 90), ("b", "x", 4), ("x", "y", 6), ("y", "c", minutes)]
            trips = [("a", 10, "b", 40), ("c", 60, "d", 70)]
            self.assertIs(can(rides, trips, 0, 1), told)

    def test_a_bus_may_go_by_the_road_of_a_trip(self):
        for begin, told in [(59, False), (60, True)]:
            trips = [("a", 10, "b", 40), ("c", begin, "d", 90), ("b", 500, "c", 520)]
            self.assertIs(can([], trips, 0, 1), told)
            self.assertIs(can([("b", "c", 9000)], trips, 0, 1), told)

    def test_a_bus_may_go_by_the_roads_of_the_two_trips(self):
        trips = [("a", 0, "b", 10), ("a", 25, "b", 40)]
        self.assertIs(can([], trips, 0, 1), False)
        self.assertIs(can([("b", "a", 15)], trips, 0, 1), True)
        self.assertIs(can([("b", "a", 16)], trips, 0, 1), False)
        there_and_back = [("a", 0, "b", 10), ("a", 90, "c", 100), ("b", 0, "a", 80)]
        self.assertIs(can([], there_and_back, 0, 1), True)
        self.assertIs(can([], there_and_back[:2], 0, 1), False)

    def test_a_ride_goes_one_way(self):
        trips = [("a", 10, "b", 40), ("c", 1000, "d", 1070)]
        self.assertIs(can([("c", "b", 1)], trips, 0, 1), False)
        self.assertIs(can([("b", "c", 1)], trips, 0, 1), True)

    def test_where_there_is_no_way_there_is_no_turn(self):
        self.assertIs(can([], [("a", 0, "b", 1), ("c", 99998, "b", 99999)], 0, 1), False)
        self.assertIs(can([], [("a", 0, "b", 1), ("a", 99998, "b", 99999)], 0, 1), False)

    def test_a_trip_to_where_it_begins(self):
        trips = [("a", 0, "a", 5), ("a", 5, "a", 9), ("a", 8, "a", 12)]
        self.assertIs(can([], trips, 0, 1), True)
        self.assertIs(can([], trips, 0, 2), True)
        self.assertIs(can([], trips, 1, 2), False)
        self.assertIs(can([], trips, 1, 0), False)

    def test_no_trip_behind_itself(self):
        for number in range(len(TRIPS)):
            self.assertIs(can(RIDES, TRIPS, number, number), False)
        self.assertIs(can([], [("a", 0, "a", 1)], 0, 0), False)

    def test_no_trip_behind_itself_told_again(self):
        trips = [("a", 0, "a", 1), ("a", 0, "a", 1), ("b", 5, "c", 6), ("b", 5, "c", 6)]
        rides = [("c", "b", 1)]
        for one, other in [(0, 1), (1, 0), (2, 3), (3, 2)]:
            self.assertIs(can(rides, trips, one, other), False)

    def test_the_first_and_the_last_minute(self):
        trips = [("a", 0, "b", 1), ("b", 99998, "c", 99999), ("b", 1, "b", 99998)]
        self.assertIs(can([], trips, 0, 1), True)
        self.assertIs(can([], trips, 0, 2), True)
        self.assertIs(can([], trips, 2, 1), True)
        self.assertIs(can([], trips, 1, 0), False)
        far = [("a", 0, "b", 90000), ("c", 99999 - 1, "d", 99999)]
        self.assertIs(can([("b", "c", 9998)], far, 0, 1), True)
        self.assertIs(can([("b", "c", 9999)], far, 0, 1), False)

    def test_seeded_trips_against_a_plain_reckoning(self):
        for seed in range(60):
            rides, trips, _ = seeded(seed, seed % 31, 1 + seed % 15, 3 + seed % 9)
            pairs = followers(rides, trips)
            for one in range(len(trips)):
                for other in range(len(trips)):
                    self.assertIs(can(rides, trips, one, other), (one, other) in pairs)

    def test_none_behind_itself_nor_each_behind_the_other_and_through_a_third(self):
        for seed in range(12):
            rides, trips, _ = seeded(seed, 10, 12, 6)
            numbers = range(len(trips))
            told = [[can(rides, trips, one, other) for other in numbers] for one in numbers]
            for one in numbers:
                for other in numbers:
                    self.assertFalse(told[one][other] and told[other][one])
                    for third in numbers:
                        if told[one][other] and told[other][third]:
                            self.assertTrue(told[one][third])

    def test_thirty_rides_and_forty_trips(self):
        rides, trips, _ = seeded(7, 30, 40, 10)
        pairs = followers(rides, trips)
        for one in range(40):
            for other in (0, 20, 39, one):
                self.assertIs(can(rides, trips, one, other), (one, other) in pairs)


if __name__ == "__main__":
    unittest.main()
