"""Points 1 and 2: what is a place, a ride and a trip, what is refused, and in which order."""

import unittest

from fewbuses.errors import NoNumber, NoPlace, NoRide, NoTrip
from fewbuses.plans import holds, plan
from fewbuses.roads import roads, spread, way
from fewbuses.turns import can, day
from tests.samples import (
    ASKERS, NUMBERED, RIDES, TRIPS, WRONG_PLACES, WRONG_RIDES, WRONG_TRIPS, refusal, wrong_numbers,
)

LONGEST = "abcdefghijkl"
LAST = "mnopqrstuvwx"

GOOD_RIDES = [
    ("a", "b", 1), ("a", "b", 9999), ("b", "a", 2), (LONGEST, "z", 1), ("y", LONGEST, 9998),
    (LONGEST, LAST, 5), ("yz", "zy", 10), ("a", "aa", 3),
]
GOOD_TRIPS = [
    ("a", 0, "b", 1), ("a", 0, "b", 99999), ("a", 99998, "b", 99999), ("a", 0, "a", 1),
    ("a", 0, "a", 99999), (LONGEST, 5, LAST, 6), (LONGEST, 5, LONGEST, 6), ("z", 1, "y", 20000),
]


class GoodTest(unittest.TestCase):
    def test_rides_at_the_bounds_are_taken(self):
        for ride in GOOD_RIDES:
            for told, ask in ASKERS.items():
                self.assertIsNone(refusal(ask, [ride], TRIPS[:1]), (told, ride))

    def test_trips_at_the_bounds_are_taken(self):
        for trip in GOOD_TRIPS:
            for told, ask in ASKERS.items():
                self.assertIsNone(refusal(ask, [], [trip]), (told, trip))

    def test_rides_and_trips_may_be_told_several_times(self):
        for told, ask in ASKERS.items():
            self.assertIsNone(refusal(ask, GOOD_RIDES * 3, GOOD_TRIPS * 3), told)

    def test_empty_lists_are_taken(self):
        for told, ask in ASKERS.items():
            expected = NoNumber if told in NUMBERED else None
            self.assertIs(refusal(ask, [], []), expected, told)
            self.assertIs(refusal(ask, RIDES, []), expected, told)
            self.assertIsNone(refusal(ask, [], TRIPS), told)

    def test_each_letter_makes_a_place(self):
        for letter in "abcdefghijklmnopqrstuvwxyz":
            self.assertEqual(spread([], [], letter), {letter: 0})

    def test_names_of_each_length_are_places(self):
        for many in range(1, 13):
            self.assertEqual(spread([], [], "q" * many), {"q" * many: 0})
            self.assertEqual(way([], [], "q" * many, "q" * many), ["q" * many])


class WrongRideTest(unittest.TestCase):
    def test_what_is_no_ride_is_refused_alone(self):
        for wrong in WRONG_RIDES:
            for told, ask in ASKERS.items():
                self.assertIs(refusal(ask, [wrong], []), NoRide, told)

    def test_what_is_no_ride_is_refused_wherever_it_stands(self):
        for wrong in WRONG_RIDES:
            for at in (0, 2, len(RIDES)):
                rides = RIDES[:at] + [wrong] + RIDES[at:]
                for told, ask in ASKERS.items():
                    self.assertIs(refusal(ask, rides, TRIPS), NoRide, (told, at))

    def test_the_last_of_sixty_is_looked_at(self):
        for told, ask in ASKERS.items():
            many = 59 if told == "roads" else 29
            self.assertIs(refusal(ask, [("a", "b", 1)] * many + [("a", "b", 0)], []), NoRide, told)


class WrongTripTest(unittest.TestCase):
    def test_what_is_no_trip_is_refused_alone(self):
        for wrong in WRONG_TRIPS:
            for told, ask in ASKERS.items():
                self.assertIs(refusal(ask, [], [wrong]), NoTrip, told)

    def test_what_is_no_trip_is_refused_wherever_it_stands(self):
        for wrong in WRONG_TRIPS:
            for at in (0, 1, len(TRIPS)):
                trips = TRIPS[:at] + [wrong] + TRIPS[at:]
                for told, ask in ASKERS.items():
                    self.assertIs(refusal(ask, RIDES, trips), NoTrip, (told, at))

    def test_the_last_of_sixty_is_looked_at(self):
        for told, ask in ASKERS.items():
            many = 59 if told == "roads" else 39
            self.assertIs(refusal(ask, [], [("a", 0, "b", 1)] * many + [("a", 1, "b", 1)]), NoTrip, told)


class WrongPlaceTest(unittest.TestCase):
    def test_spread_refuses_what_is_no_place(self):
        for wrong in WRONG_PLACES:
            self.assertIs(refusal(spread, RIDES, TRIPS, wrong), NoPlace)
            self.assertIs(refusal(spread, [], [], wrong), NoPlace)

    def test_way_refuses_what_is_no_place_on_either_side(self):
        for wrong in WRONG_PLACES:
            self.assertIs(refusal(way, RIDES, TRIPS, wrong, "a"), NoPlace)
            self.assertIs(refusal(way, RIDES, TRIPS, "a", wrong), NoPlace)
            self.assertIs(refusal(way, RIDES, TRIPS, wrong, wrong), NoPlace)
            self.assertIs(refusal(way, [], [], wrong, "a"), NoPlace)
            self.assertIs(refusal(way, [], [], "a", wrong), NoPlace)
            self.assertIs(refusal(way, [], [], wrong, wrong), NoPlace)

    def test_a_place_that_nothing_tells_of_is_no_wrong_one(self):
        self.assertIsNone(refusal(spread, RIDES, TRIPS, "nowhere"))
        self.assertIsNone(refusal(way, RIDES, TRIPS, "nowhere", "a"))
        self.assertIsNone(refusal(way, RIDES, TRIPS, "a", "nowhere"))


class WrongNumberTest(unittest.TestCase):
    def test_can_refuses_what_is_no_number_on_either_side(self):
        for wrong in wrong_numbers(len(TRIPS)):
            self.assertIs(refusal(can, RIDES, TRIPS, wrong, 0), NoNumber)
            self.assertIs(refusal(can, RIDES, TRIPS, 0, wrong), NoNumber)
            self.assertIs(refusal(can, RIDES, TRIPS, wrong, wrong), NoNumber)

    def test_day_refuses_what_is_no_number_wherever_it_stands(self):
        row = [1, 0]
        self.assertIsNone(refusal(day, RIDES, TRIPS, row))
        for wrong in wrong_numbers(len(TRIPS)):
            for at in (0, 1, 2):
                self.assertIs(refusal(day, RIDES, TRIPS, row[:at] + [wrong] + row[at:]), NoNumber)
            self.assertIs(refusal(day, RIDES, TRIPS, [wrong]), NoNumber)

    def test_no_number_is_one_where_there_are_no_trips(self):
        for wrong in wrong_numbers(0) + [0]:
            self.assertIs(refusal(can, RIDES, [], wrong, wrong), NoNumber)
            self.assertIs(refusal(day, RIDES, [], [wrong]), NoNumber)

    def test_the_last_number_is_one_and_the_next_is_none(self):
        for many in (1, 2, 40):
            trips = [("a", 0, "b", 1)] * many
            self.assertIsNone(refusal(can, [], trips, many - 1, many - 1))
            self.assertIsNone(refusal(day, [], trips, [many - 1]))
            for wrong in (many, -1, -many):
                self.assertIs(refusal(can, [], trips, wrong, 0), NoNumber)
                self.assertIs(refusal(can, [], trips, 0, wrong), NoNumber)
                self.assertIs(refusal(day, [], trips, [wrong]), NoNumber)

    def test_true_and_false_are_no_numbers(self):
        trips = [("a", 0, "b", 1), ("b", 5, "c", 6)]
        self.assertTrue(can([], trips, 0, 1))
        for wrong in (True, False):
            self.assertIs(refusal(can, [], trips, wrong, 1), NoNumber)
            self.assertIs(refusal(can, [], trips, 0, wrong), NoNumber)
            self.assertIs(refusal(day, [], trips, [wrong]), NoNumber)
        self.assertIs(refusal(day, [], trips, [False, True]), NoNumber)


class OrderTest(unittest.TestCase):
    def test_rides_are_refused_ahead_of_trips(self):
        for told, ask in ASKERS.items():
            self.assertIs(refusal(ask, [("a", "a", 1)], [("a", 1, "b", 1)]), NoRide, told)
            self.assertIs(refusal(ask, RIDES + [None], [None] + TRIPS), NoRide, told)

    def test_rides_are_refused_ahead_of_places(self):
        self.assertIs(refusal(spread, RIDES + [None], TRIPS, "A"), NoRide)
        self.assertIs(refusal(way, RIDES + [None], TRIPS, "A", "a"), NoRide)
        self.assertIs(refusal(way, RIDES + [None], TRIPS, "a", "A"), NoRide)
        self.assertIs(refusal(way, RIDES + [None], TRIPS, "A", "A"), NoRide)

    def test_trips_are_refused_ahead_of_places(self):
        self.assertIs(refusal(spread, RIDES, TRIPS + [None], "A"), NoTrip)
        self.assertIs(refusal(way, RIDES, TRIPS + [None], "A", "a"), NoTrip)
        self.assertIs(refusal(way, RIDES, TRIPS + [None], "a", "A"), NoTrip)
        self.assertIs(refusal(way, RIDES, TRIPS + [None], "A", "A"), NoTrip)

    def test_rides_are_refused_first_of_all(self):
        self.assertIs(refusal(spread, [None], [None], None), NoRide)
        self.assertIs(refusal(way, [None], [None], None, None), NoRide)

    def test_rides_and_trips_are_refused_ahead_of_numbers(self):
        for wrong in (9, -1, True, None, "a"):
            for one, other in [(wrong, 0), (0, wrong), (wrong, wrong)]:
                self.assertIs(refusal(can, RIDES + [None], TRIPS, one, other), NoRide)
                self.assertIs(refusal(can, RIDES + [None], [None], one, other), NoRide)
                self.assertIs(refusal(can, RIDES, TRIPS + [None], one, other), NoTrip)
                self.assertIs(refusal(day, RIDES + [None], TRIPS, [one, other]), NoRide)
                self.assertIs(refusal(day, RIDES + [None], [None], [one, other]), NoRide)
                self.assertIs(refusal(day, RIDES, TRIPS + [None], [one, other]), NoTrip)

    def test_rides_and_trips_are_refused_ahead_of_what_is_not_in_time(self):
        self.assertIs(refusal(day, RIDES + [None], TRIPS, [0, 0]), NoRide)
        self.assertIs(refusal(day, RIDES, TRIPS + [None], [0, 0]), NoTrip)

    def test_rides_and_trips_are_refused_ahead_of_what_does_not_hold(self):
        for rows, apart in [(None, None), ([], []), ([[0]], [0]), (5, "a"), ([[9]], [9])]:
            self.assertIs(refusal(holds, RIDES + [None], TRIPS, rows, apart), NoRide)
            self.assertIs(refusal(holds, RIDES + [None], [None], rows, apart), NoRide)
            self.assertIs(refusal(holds, RIDES, TRIPS + [None], rows, apart), NoTrip)

    def test_what_the_answer_does_not_need_is_looked_at_too(self):
        self.assertIs(refusal(way, [None], [], "a", "a"), NoRide)
        self.assertIs(refusal(way, [], [None], "a", "a"), NoTrip)
        self.assertIs(refusal(spread, RIDES + [("x", "y", 0)], TRIPS, "nowhere"), NoRide)
        self.assertIs(refusal(spread, RIDES, TRIPS + [("x", 5, "x", 5)], "nowhere"), NoTrip)
        self.assertIs(refusal(way, [], [], "nowhere", ""), NoPlace)
        self.assertIs(refusal(day, [None], [], []), NoRide)
        self.assertIs(refusal(day, [], [None], []), NoTrip)
        self.assertIs(refusal(plan, [None], []), NoRide)
        self.assertIs(refusal(holds, [None], [], [], []), NoRide)
        self.assertIs(refusal(can, [None], TRIPS, 0, 0), NoRide)


class MessageTest(unittest.TestCase):
    def test_each_refusal_says_something(self):
        for ask, rides, trips in [(roads, [None], []), (roads, [], [None])]:
            with self.assertRaises(ValueError) as caught:
                ask(rides, trips)
            self.assertTrue(str(caught.exception))
        with self.assertRaises(ValueError) as caught:
            spread([], [], "")
        self.assertTrue(str(caught.exception))
        for row in ([0], [[]], [10 ** 5000]):
            with self.assertRaises(ValueError) as caught:
                day([], [], row)
            self.assertTrue(str(caught.exception))
        with self.assertRaises(ValueError) as caught:
            day([], [("a", 1, "b", 2)], [0, 0])
        self.assertTrue(str(caught.exception))


if __name__ == "__main__":
    unittest.main()
