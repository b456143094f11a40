"""Point 8: plan."""

import unittest

from fewbuses.plans import holds, plan
from fewbuses.turns import can
from tests.samples import RIDES, TRIPS, fewest_rows, followers, name, seeded


def in_a_row(many):
    """Trips each of which begins where and when the one ahead of it ends."""
    return [(name(at), at, name(at + 1), at + 1) for at in range(many)]


class PlanTest(unittest.TestCase):
    def check_plan(self, rides, trips):
        """Check what the answer itself shows, and tell the number of rows."""
        told = plan(rides, trips)
        self.assertEqual((type(told), len(told)), (tuple, 2))
        rows, apart = told
        self.assertEqual({type(part) for part in [rows, apart, *rows]}, {list})
        self.assertLessEqual({type(number) for number in sum(rows, apart)}, {int})
        self.assertEqual(sorted(sum(rows, [])), list(range(len(trips))))
        self.assertTrue(all(rows))
        self.assertEqual(rows, sorted(rows, key=lambda row: row[0]))
        pairs = followers(rides, trips)
        for row in rows:
            for one, other in zip(row, row[1:]):
                self.assertIn((one, other), pairs)
        self.assertEqual(len(apart), len(rows))
        self.assertEqual(apart, sorted(set(apart)))
        self.assertLessEqual(set(apart), set(range(len(trips))))
        for one in apart:
            for other in apart:
                self.assertNotIn((one, other), pairs)
        self.assertIs(holds(rides, trips, rows, apart), True)
        return len(rows)

    def test_of_no_trips_both_are_empty(self):
        self.assertEqual(plan([], []), ([], []))
        self.assertEqual(plan(RIDES, []), ([], []))

    def test_of_one_trip(self):
        self.assertEqual(plan([], TRIPS[:1]), ([[0]], [0]))
        self.assertEqual(plan(RIDES, [("a", 0, "a", 99999)]), ([[0]], [0]))

    def test_three_trips(self):
        rows, apart = plan(RIDES, TRIPS)
        self.assertIn(rows, [[[1, 0], [2]], [[1], [2, 0]]])
        self.assertEqual(apart, [1, 2])
        self.check_plan(RIDES, TRIPS)

    def test_two_trips_by_turns_just_in_time_and_a_minute_late(self):
        for minutes, rows in [(20, [[0, 1]]), (21, [[0], [1]])]:
            trips = [("a", 10, "b", 40), ("c", 60, "d", 70)]
            self.assertEqual(plan([("b", "c", minutes)], trips)[0], rows)
            self.assertEqual(len(plan([("b", "c", minutes)], trips)[1]), len(rows))

    def test_a_bus_may_go_by_the_road_of_a_trip(self):
        trips = [("a", 10, "b", 40), ("c", 60, "d", 70), ("b", 20, "c", 40)]
        self.assertEqual(plan([], trips[:2])[0], [[0], [1]])
        self.assertEqual(self.check_plan([], trips), 2)

    def test_trips_told_twice_take_a_bus_each(self):
        for many in (2, 3, 40):
            trips = [("a", 0, "b", 10)] * many
            told = ([[number] for number in range(many)], list(range(many)))
            self.assertEqual(plan([], trips), told)
            self.assertEqual(plan([("b", "a", 1)], trips), told)
        trips = [("a", 0, "a", 10), ("a", 10, "a", 20)] * 20
        self.assertEqual(self.check_plan([], trips), 20)

    def test_places_in_a_row(self):
        self.assertEqual(plan([], in_a_row(40))[0], [list(range(40))])
        self.assertEqual(self.check_plan([], in_a_row(40)), 1)
        backward = in_a_row(40)[::-1]
        self.assertEqual(plan([], backward)[0], [list(range(39, -1, -1))])
        self.assertEqual(self.check_plan([], backward), 1)

    def test_a_row_may_begin_with_a_higher_number(self):
        trips = [("a", 50, "a", 60), ("z", 0, "z", 99), ("a", 0, "a", 10), ("y", 0, "y", 99)]
        self.assertEqual(plan([], trips)[0], [[1], [2, 0], [3]])
        self.assertEqual(self.check_plan([], trips), 3)

    def test_a_next_trip_must_be_left_to_another(self):
        # The first in the list could go on with either, the second with one of them only.
        trips = [("a", 0, "b", 5), ("a", 1, "c", 6), ("b", 10, "d", 20), ("e", 12, "d", 20)]
        rides = [("b", "e", 1), ("c", "b", 1)]
        for order in ([0, 1, 2, 3], [1, 0, 2, 3], [0, 1, 3, 2], [1, 0, 3, 2], [3, 2, 1, 0], [2, 1, 3, 0]):
            self.assertEqual(self.check_plan(rides, [trips[at] for at in order]), 2)

    def test_trips_handed_on_along_a_long_line(self):
        # Each of the early trips can be followed by two late ones, the last of them by one.
        early = [("a", 0, name(at), 1) for at in range(20)]
        late = [(name(at), 5, "z", 6) for at in range(20)]
        rides = [(name(at), name(at + 1), 4) for at in range(19)]
        trips = early + late
        self.assertEqual(self.check_plan(rides, trips), 20)
        self.assertEqual(self.check_plan(rides, trips[::-1]), 20)
        self.assertEqual(self.check_plan(rides, early[::-1] + late), 20)
        self.assertEqual(self.check_plan(rides, trips[:39]), 20)
        self.assertEqual(self.check_plan(rides, trips[1:]), 20)

    def test_fewest_rows_of_few_seeded_trips(self):
        for seed in range(300):
            rides, trips, _ = seeded(seed, seed % 7, seed % 8, 2 + seed % 5)
            fewest = fewest_rows(followers(rides, trips), len(trips))
            self.assertEqual(self.check_plan(rides, trips), fewest)

    def test_fewest_rows_of_few_trips_close_together(self):
        for seed in range(200):
            rides, trips, _ = seeded(1000 + seed, 8, 7, 4)
            trips = [(one, begin % 60, other, begin % 60 + end - begin) for one, begin, other, end in trips]
            fewest = fewest_rows(followers(rides, trips), len(trips))
            self.assertEqual(self.check_plan(rides, trips), fewest)

    def test_seeded_rides_and_trips_up_to_the_limits(self):
        seen = set()
        for seed in range(60):
            rides, trips, _ = seeded(seed, 30 - seed % 8, 40 - seed % 5, 3 + seed % 20)
            seen.add(self.check_plan(rides, trips))
        self.assertGreater(len(seen), 8)

    def test_somewhat_more_than_the_limits(self):
        rides, trips, _ = seeded(3, 60, 60, 9)
        self.check_plan(rides, trips)

    def test_each_next_trip_can_be_done_by_can_too(self):
        rides, trips, _ = seeded(11, 30, 40, 8)
        rows, apart = plan(rides, trips)
        for row in rows:
            for one, other in zip(row, row[1:]):
                self.assertIs(can(rides, trips, one, other), True)
        for one in apart:
            for other in apart:
                self.assertIs(can(rides, trips, one, other), False)


if __name__ == "__main__":
    unittest.main()
