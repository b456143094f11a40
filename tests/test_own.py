"""Points 1 and 2: nothing handed in is changed, and each answer is new and the asker's own."""

import copy
import unittest

from fewbuses.plans import holds, plan
from fewbuses.roads import roads, spread, way
from fewbuses.turns import can, day
from tests.samples import ASKERS, RIDES, TRIPS, refusal


class HandedInTest(unittest.TestCase):
    def test_what_is_handed_in_stays_as_it_was(self):
        for told, ask in ASKERS.items():
            rides, trips = list(RIDES), list(TRIPS)
            ask(rides, trips)
            self.assertEqual((rides, trips), (RIDES, TRIPS), told)

    def test_what_is_refused_stays_as_it_was(self):
        wrong_ride = [["a"], "b", {"c": [1]}]
        wrong_trip = (["a"], 1, "b", [2])
        for told, ask in ASKERS.items():
            rides, trips = RIDES + [wrong_ride], TRIPS + [wrong_trip]
            before = copy.deepcopy((rides, trips))
            self.assertIsNotNone(refusal(ask, rides, trips))
            self.assertEqual((rides, trips), before, told)
            self.assertIsNotNone(refusal(ask, RIDES, trips))
            self.assertEqual((rides, trips), before, told)

    def test_rows_and_numbers_that_are_handed_in_stay_as_they_were(self):
        rides, trips = list(RIDES), list(TRIPS)
        for row in ([], [1, 0], [0, 1], [0, 0], [1, 9], [True]):
            before = list(row)
            refusal(day, rides, trips, row)
            self.assertEqual(row, before)
        wrong = [([[0, 1], [2]], [2, 0]), ([[2], [], [9]], [5]), ([None, "a"], [[]])]
        for rows, apart in [([[2], [1, 0]], [1, 2])] + wrong:
            before = copy.deepcopy((rows, apart))
            refusal(holds, rides, trips, rows, apart)
            self.assertEqual((rows, apart), before)
        self.assertEqual((rides, trips), (RIDES, TRIPS))


class AnswerTest(unittest.TestCase):
    def test_an_answer_of_roads_is_new(self):
        rides, trips = list(RIDES), list(TRIPS)
        first = roads(rides, trips)
        kept = list(first)
        first.append(("x", "y", 1))
        first.reverse()
        del first[0:3]
        self.assertEqual((rides, trips), (RIDES, TRIPS))
        self.assertEqual(roads(rides, trips), kept)
        self.assertEqual(spread(rides, trips, "a"), {"a": 0, "b": 10, "c": 15, "d": 22, "e": 52})

    def test_roads_of_rides_alone_is_new(self):
        rides = list(RIDES)
        told = roads(rides, [])
        self.assertIsNot(told, rides)
        told.clear()
        self.assertEqual(rides, RIDES)

    def test_roads_of_nothing_is_new(self):
        rides, trips = [], []
        told = roads(rides, trips)
        told.append(("x", "y", 1))
        self.assertEqual((rides, trips), ([], []))
        self.assertEqual(roads([], []), [])

    def test_an_answer_of_spread_is_new(self):
        rides, trips = list(RIDES), list(TRIPS)
        first = spread(rides, trips, "a")
        kept = dict(first)
        first["b"] = 1000
        first["x"] = 1
        del first["a"]
        self.assertEqual((rides, trips), (RIDES, TRIPS))
        self.assertEqual(spread(rides, trips, "a"), kept)
        self.assertEqual(way(rides, trips, "a", "b"), ["a", "b"])

    def test_an_answer_of_way_is_new(self):
        rides, trips = list(RIDES), list(TRIPS)
        first = way(rides, trips, "a", "d")
        kept = list(first)
        first.reverse()
        first.append("x")
        self.assertEqual((rides, trips), (RIDES, TRIPS))
        self.assertEqual(way(rides, trips, "a", "d"), kept)
        alone = way([], [], "a", "a")
        alone.append("x")
        self.assertEqual(way([], [], "a", "a"), ["a"])

    def test_an_answer_of_day_is_new(self):
        rides, trips, row = list(RIDES), list(TRIPS), [1, 0]
        first = day(rides, trips, row)
        kept = list(first)
        first.reverse()
        first.append(("x", 1))
        self.assertEqual((rides, trips, row), (RIDES, TRIPS, [1, 0]))
        self.assertEqual(day(rides, trips, row), kept)
        nothing = day(rides, trips, [])
        nothing.append(("x", 1))
        self.assertEqual(day(rides, trips, []), [])
        empty = []
        self.assertIsNot(day(rides, trips, empty), empty)

    def test_an_answer_of_plan_is_new_and_so_is_each_row_in_it(self):
        rides, trips = list(RIDES), list(TRIPS)
        first = plan(rides, trips)
        kept = copy.deepcopy(first)
        for row in first[0]:
            row.reverse()
            row.append(7)
        first[0].append([9])
        first[1].clear()
        self.assertEqual((rides, trips), (RIDES, TRIPS))
        self.assertEqual(plan(rides, trips), kept)
        self.assertTrue(holds(rides, trips, kept[0], kept[1]))

    def test_the_lists_of_a_plan_are_each_one_of_its_own(self):
        apart_trips = [("a", 1, "b", 2)] * 5
        for rides, trips in [(RIDES, TRIPS), ([], apart_trips), ([], TRIPS[:1]), ([], [])]:
            rows, apart = plan(rides, trips)
            again, apart_again = plan(rides, trips)
            lists = [rows, apart, again, apart_again] + rows + again
            self.assertEqual(len({id(one) for one in lists}), len(lists))

    def test_an_empty_plan_is_new(self):
        rides, trips = [], []
        rows, apart = plan(rides, trips)
        rows.append([0])
        apart.append(0)
        self.assertEqual((rides, trips), ([], []))
        self.assertEqual(plan([], []), ([], []))

    def test_what_is_changed_later_changes_no_earlier_answer(self):
        rides, trips, row = list(RIDES), list(TRIPS), [1, 0]
        told = self.all_answers(rides, trips, row)
        kept = copy.deepcopy(told)
        rides.clear()
        trips.append(("a", 1, "e", 2))
        row.pop()
        self.all_answers(rides, trips, row)
        self.assertEqual(told, kept)

    def all_answers(self, rides, trips, row):
        answers = [roads(rides, trips), spread(rides, trips, "a"), way(rides, trips, "a", "e")]
        answers += [can(rides, trips, 1, 0), day(rides, trips, row), plan(rides, trips)]
        return answers + [holds(rides, trips, [[2], [1, 0]], [1, 2])]

    def test_lists_that_the_asker_changed_are_looked_at_anew(self):
        rides, trips = list(RIDES), list(TRIPS)
        self.assertEqual(spread(rides, trips, "a")["e"], 52)
        trips.append(("a", 1, "e", 2))
        self.assertEqual(spread(rides, trips, "a")["e"], 1)
        self.assertEqual(way(rides, trips, "a", "e"), ["a", "e"])
        self.assertEqual(roads(rides, trips)[-1], ("a", "e", 1))

    def test_plans_of_lists_that_the_asker_changed_are_made_anew(self):
        rides, trips = [("b", "a", 5)], [("a", 0, "b", 10), ("a", 14, "b", 20)]
        self.assertFalse(can(rides, trips, 0, 1))
        self.assertEqual(plan(rides, trips), ([[0], [1]], [0, 1]))
        rides[0] = ("b", "a", 4)
        self.assertTrue(can(rides, trips, 0, 1))
        self.assertEqual(plan(rides, trips)[0], [[0, 1]])
        self.assertFalse(holds(rides, trips, [[0], [1]], [0, 1]))
        self.assertEqual(day(rides, trips, [0, 1]), [("a", 0), ("b", 10), ("a", 14), ("a", 14), ("b", 20)])
        trips.pop()
        self.assertEqual(plan(rides, trips), ([[0]], [0]))

    def test_two_answers_are_never_the_same_object(self):
        for told, ask in ASKERS.items():
            if told not in ("can", "holds"):
                self.assertIsNot(ask(RIDES, TRIPS), ask(RIDES, TRIPS), told)


if __name__ == "__main__":
    unittest.main()
