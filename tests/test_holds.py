"""Point 9: holds."""

import copy
import itertools
import unittest

from fewbuses.plans import holds, plan
from tests.samples import RIDES, TRIPS, WRONG_PLACES, WRONG_WHOLES, fewest_rows, followers, seeded, wrong_numbers

# Of these, 0 and 1 can each be followed by 2 and 3, and 4 by none.
FIVE = [("a", 0, "a", 10), ("a", 5, "a", 15), ("a", 20, "a", 30), ("a", 25, "a", 35), ("z", 0, "z", 99)]
ROWS = [[0, 2], [1, 3], [4]]
APART = [0, 1, 4]


class HoldsTest(unittest.TestCase):
    def check(self, rows, apart, told):
        self.assertIs(holds([], FIVE, rows, apart), told)

    def test_a_good_plan_holds(self):
        self.check(ROWS, APART, True)
        self.check(ROWS, [2, 3, 4], True)
        self.check([[0, 3], [1, 2], [4]], APART, True)

    def test_of_no_trips_both_are_empty(self):
        for rides in ([], RIDES):
            self.assertIs(holds(rides, [], [], []), True)
            self.assertIs(holds(rides, [], [[]], []), False)
            self.assertIs(holds(rides, [], [[]], [0]), False)
            self.assertIs(holds(rides, [], [[0]], [0]), False)
            self.assertIs(holds(rides, [], [], [0]), False)

    def test_of_trips_nothing_is_none(self):
        self.check([], [], False)
        self.check(ROWS, [], False)
        self.check([], APART, False)

    def test_rows_in_any_order(self):
        for rows in itertools.permutations(ROWS):
            self.check(list(rows), APART, True)

    def test_numbers_apart_only_rising(self):
        for apart in itertools.permutations(APART):
            self.check(ROWS, list(apart), list(apart) == APART)
        self.check(ROWS[:2] + [[4]], [0, 1, 1], False)
        self.check(ROWS, [0, 0, 1], False)
        self.check(ROWS, [0, 0, 4], False)
        self.check(ROWS, [4, 4, 4], False)

    def test_numbers_within_a_row_only_in_turn(self):
        self.check([[2, 0], [1, 3], [4]], APART, False)
        self.check([[0, 2], [3, 1], [4]], APART, False)

    def test_numbers_apart_of_which_one_can_be_done_behind_another(self):
        for apart in itertools.combinations(range(5), 3):
            self.check(ROWS, list(apart), list(apart) in ([0, 1, 4], [2, 3, 4]))

    def test_other_numbers_of_numbers_apart(self):
        for many in (0, 1, 2, 4, 5):
            for apart in itertools.combinations(range(5), many):
                self.check(ROWS, list(apart), False)

    def test_each_row_left_out_or_told_again(self):
        for at in range(3):
            self.check(ROWS[:at] + ROWS[at + 1:], APART, False)
            self.check(ROWS[:at] + ROWS[at + 1:], APART[:at] + APART[at + 1:], False)
            self.check(ROWS + [ROWS[at]], APART, False)
            self.check(ROWS + [ROWS[at]], [0, 1, 3, 4], False)

    def test_each_number_left_out(self):
        for at, row in enumerate(ROWS):
            for spot in range(len(row)):
                rows = copy.deepcopy(ROWS)
                del rows[at][spot]
                self.check(rows, APART, False)
                self.check([row for row in rows if row], APART, False)

    def test_each_number_told_again(self):
        for at, row in enumerate(ROWS):
            for spot in range(len(row) + 1):
                for number in range(5):
                    rows = copy.deepcopy(ROWS)
                    rows[at].insert(spot, number)
                    self.check(rows, APART, False)
        for number in range(5):
            self.check(ROWS + [[number]], APART, False)

    def test_each_number_put_for_another(self):
        for at, row in enumerate(ROWS):
            for spot in range(len(row)):
                for number in range(5):
                    rows = copy.deepcopy(ROWS)
                    rows[at][spot] = number
                    self.check(rows, APART, number == row[spot])

    def test_more_rows_than_need_be(self):
        rows = [[0], [2], [1, 3], [4]]
        for apart in itertools.combinations(range(5), 4):
            self.check(rows, list(apart), False)
        self.check(rows, APART, False)
        self.check([[0], [1], [2], [3], [4]], [0, 1, 2, 3, 4], False)

    def test_fewer_rows_than_can_be(self):
        self.check([[0, 2, 4], [1, 3]], [0, 1], False)
        self.check([[0, 2], [1, 3, 4]], APART, False)

    def test_an_empty_row(self):
        self.check(ROWS + [[]], APART, False)
        self.check([[]] + ROWS, APART, False)
        self.check(ROWS + [[]], [0, 1, 2, 4], False)
        self.check([[0, 2], [], [1, 3], [4]], APART, False)

    def test_just_in_time_and_a_minute_late(self):
        for begin, told in [(10, True), (9, False)]:
            trips = [("a", 0, "b", 10), ("b", begin, "c", 20)]
            self.assertIs(holds([], trips, [[0, 1]], [0]), told)
            self.assertIs(holds([], trips, [[0, 1]], [1]), told)
            self.assertIs(holds([], trips, [[0], [1]], [0, 1]), not told)
        for minutes, told in [(20, True), (21, False)]:
            trips = [("a", 10, "b", 40), ("c", 60, "d", 70)]
            self.assertIs(holds([("b", "c", minutes)], trips, [[0, 1]], [1]), told)
            self.assertIs(holds([("b", "c", minutes)], trips, [[1], [0]], [0, 1]), not told)

    def test_trips_told_twice(self):
        trips = [("a", 0, "a", 10), ("a", 0, "a", 10)]
        self.assertIs(holds([], trips, [[0], [1]], [0, 1]), True)
        self.assertIs(holds([], trips, [[1], [0]], [0, 1]), True)
        self.assertIs(holds([], trips, [[0, 1]], [0]), False)
        self.assertIs(holds([], trips, [[0], [0]], [0, 1]), False)


class WrongThingTest(unittest.TestCase):
    def check_false(self, rows, apart):
        self.assertIs(holds([], FIVE, rows, apart), False)

    def test_what_are_no_rows(self):
        wrong = WRONG_PLACES + WRONG_WHOLES + [tuple(ROWS), dict(enumerate(ROWS)), {(0, 2), (1, 3), (4,)}]
        wrong += [[0, 2, 1, 3, 4], [0], "02134", [ROWS], (ROWS, APART), [[[0, 2]], [[1, 3]], [[4]]]]
        wrong += [iter(ROWS), (row for row in ROWS), range(5), zip([0, 1], [2, 3])]
        for rows in wrong:
            self.check_false(rows, APART)
            self.check_false(rows, [])

    def test_what_is_no_row_wherever_it_stands(self):
        wrong = WRONG_PLACES + WRONG_WHOLES + [(4,), {4}, {4: True}, 4, "4", b"\x04", range(4, 5), iter([4]), [[4]]]
        for row in wrong:
            self.check_false([[0, 2], [1, 3], row], APART)
            self.check_false([row, [0, 2], [1, 3]], APART)
            self.check_false(ROWS + [row], APART)
            self.check_false([row] + ROWS, APART)
        self.check_false([(0, 2), (1, 3), (4,)], APART)

    def test_what_are_no_numbers_apart(self):
        wrong = WRONG_PLACES + WRONG_WHOLES + [tuple(APART), set(APART), dict.fromkeys(APART), "014", b"\x00\x01\x04"]
        wrong += [iter(APART), range(3), [APART], [[0], [1], [4]], (APART,)]
        for apart in wrong:
            self.check_false(ROWS, apart)

    def test_what_is_no_number_in_a_row(self):
        for wrong in wrong_numbers(5):
            for at, row in enumerate(ROWS):
                for spot in range(len(row)):
                    rows = copy.copy(ROWS)
                    rows[at] = row[:spot] + [wrong] + row[spot + 1:]
                    self.check_false(rows, APART)
                    rows[at] = row[:spot] + [wrong] + row[spot:]
                    self.check_false(rows, APART)
            self.check_false(ROWS + [[wrong]], APART)
            self.check_false(ROWS + [[wrong]], APART + [wrong])

    def test_what_is_no_number_apart(self):
        for wrong in wrong_numbers(5):
            for at in range(3):
                self.check_false(ROWS, APART[:at] + [wrong] + APART[at + 1:])
            for at in range(4):
                self.check_false(ROWS, APART[:at] + [wrong] + APART[at:])

    def test_true_and_false_and_halves_are_no_numbers(self):
        self.check_false([[False, 2], [1, 3], [4]], APART)
        self.check_false([[0, 2], [True, 3], [4]], APART)
        self.check_false(ROWS, [False, 1, 4])
        self.check_false(ROWS, [0, True, 4])
        self.check_false([[0.0, 2], [1, 3], [4]], APART)
        self.check_false(ROWS, [0, 1, 4.0])

    def test_numbers_counted_from_the_end_are_none(self):
        self.check_false([[0, 2], [1, 3], [-1]], APART)
        self.check_false([[-5, 2], [1, 3], [4]], APART)
        self.check_false(ROWS, [-5, 1, 4])
        self.check_false(ROWS, [-1, 0, 1])

    def test_lists_that_hold_themselves(self):
        turning = []
        turning.append(turning)
        self.check_false(turning, APART)
        self.check_false(ROWS, turning)
        self.check_false(turning, turning)
        self.check_false(ROWS + [turning], APART)

    def test_rows_and_numbers_the_wrong_way_round(self):
        self.check_false(APART, ROWS)
        self.check_false((ROWS, APART), None)

    def test_one_list_for_both(self):
        empty = []
        self.assertIs(holds([], [], empty, empty), True)
        self.check_false(empty, empty)
        self.check_false(APART, APART)


class PlainReckoningTest(unittest.TestCase):
    def test_all_that_can_be_told_of_three_trips(self):
        dealt = [row for many in range(4) for row in itertools.product(range(3), repeat=many)]
        few = [itertools.product(dealt, repeat=many) for many in range(3)]
        dealings = list(itertools.chain(*few, itertools.product(dealt[:4], repeat=3)))
        dealings += list(itertools.product(dealt[:2], repeat=4))
        some_apart = [list(apart) for many in range(4) for apart in itertools.product(range(-1, 4), repeat=many)]
        for trips in (FIVE[:3], FIVE[1:4], FIVE[2:], FIVE[:2] + FIVE[:1], FIVE[1:3] + [("a", 40, "a", 41)]):
            pairs = followers([], trips)
            for rows in dealings:
                rows = [list(row) for row in rows]
                for apart in (some_apart if sorted(sum(rows, [])) == [0, 1, 2] else some_apart[:3]):
                    self.assertIs(holds([], trips, rows, apart), self.reckon(pairs, 3, rows, apart))

    def test_one_thing_of_seeded_plans_changed(self):
        for seed in range(25):
            rides, trips, _ = seeded(seed, 6, 5 + seed % 3, 4)
            pairs = followers(rides, trips)
            rows, apart = plan(rides, trips)
            for changed in self.changed_rows(rows, len(trips)):
                told = holds(rides, trips, changed, apart)
                self.assertIs(told, self.reckon(pairs, len(trips), changed, apart))
            for many in range(len(trips) + 1):
                for others in itertools.combinations(range(len(trips)), many):
                    told = holds(rides, trips, rows, list(others))
                    self.assertIs(told, self.reckon(pairs, len(trips), rows, list(others)))

    def test_plans_of_forty_trips(self):
        for seed in range(15):
            rides, trips, _ = seeded(seed, 30, 40, 5 + seed)
            rows, apart = plan(rides, trips)
            self.assertIs(holds(rides, trips, rows, apart), True)
            self.assertIs(holds(rides, trips, rows[::-1], apart), True)
            self.assertIs(holds(rides, trips, rows[1:], apart), False)
            self.assertIs(holds(rides, trips, rows, apart[1:]), False)
            self.assertIs(holds(rides, trips, rows, apart[::-1]), len(apart) < 2)
            self.assertIs(holds(rides, trips[1:], rows, apart), False)
            self.assertIs(holds(rides, trips + [TRIPS[0]], rows, apart), False)

    def changed_rows(self, rows, many):
        """Rows of which one number was moved to any other spot, or to a row of its own."""
        for number in range(many):
            rest = [[other for other in row if other != number] for row in rows]
            rest = [row for row in rest if row]
            yield rest + [[number]]
            for at, row in enumerate(rest):
                for spot in range(len(row) + 1):
                    yield rest[:at] + [row[:spot] + [number] + row[spot:]] + rest[at + 1:]

    def reckon(self, pairs, many, rows, apart):
        """Whether they are such, by the document's words alone."""
        if not all(rows) or sorted(sum(rows, [])) != list(range(many)):
            return False
        if not all(pair in pairs for row in rows for pair in zip(row, row[1:])):
            return False
        if len(rows) != fewest_rows(pairs, many) or len(apart) != len(rows):
            return False
        if apart != sorted(set(apart)) or not set(apart) <= set(range(many)):
            return False
        return not any(pair in pairs for pair in itertools.permutations(apart, 2))


if __name__ == "__main__":
    unittest.main()
