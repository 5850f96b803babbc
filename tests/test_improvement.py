"""Operations 19 and 20: improvements by a single change, and the reserve for growing arrivals."""

import unittest
from fractions import Fraction

from asking import (
    GREATEST, IMPROVEMENT, NO_RESULT, NOT_ALLOWED, OUT_OF_RANGE, RESERVE, SET_WEIGHT, ask_after, last, made, part,
    single,
)
from terms import Case

# The plans by cost and number: [0, 1] 14, 8; [1, 1] 19, 7; [0, 2] 30, 4; [2, 1] 31, 13/2; [1, 2] 35, 3;
# [2, 2] 47, 5/2. Each station has an option that isn't allowed.
TWO = [
    (12, 1, [single(2, 10), single(1, 15), part(2, 27), (1, 12, 1)]),
    (12, 2, [(1, 11, 0), single(3, 4), single(1, 20)]),
]
NO_PLANS_OF_TWO = [
    [], [0], [1], [0, 1, 0], [0, 1, 0, 0], [0] * 6, [4, 1], [0, 3], [4, 3], [GREATEST, 1], [0, GREATEST],
    [GREATEST] * 2, [GREATEST] * 6, [4], [3], [4, 0], [3, 3],
]
NOT_ALLOWED_OF_TWO = [[3, 1], [0, 0], [3, 0], [2, 0], [3, 2]]


class Improvement(unittest.TestCase):
    def check(self, stations, target, plan, answer, limit=None):
        with self.subTest(target=target, plan=plan):
            self.assertEqual(last(made(stations, target, limit) + [(IMPROVEMENT, plan)]), answer)

    def test_of_a_feasible_plan(self):
        self.check(TWO, (3, 1), [2, 2], [35, 3, 1, 1, 2])
        self.check(TWO, (4, 1), [2, 2], [30, 4, 1, 0, 2])
        self.check(TWO, (13, 2), [2, 2], [30, 4, 1, 0, 2])
        self.check(TWO, (8, 1), [1, 2], [19, 7, 1, 1, 1])
        self.check(TWO, (8, 1), [2, 1], [14, 8, 1, 0, 1])

    def test_only_one_station_changes(self):
        # [0, 1] is the best plan, but two stations away.
        self.check(TWO, (8, 1), [2, 2], [30, 4, 1, 0, 2])

    def test_of_a_feasible_plan_it_has_to_be_better(self):
        for target, plan in (((8, 1), [0, 1]), ((7, 1), [1, 1]), ((4, 1), [0, 2]), ((3, 1), [1, 2]), ((5, 2), [2, 2])):
            self.check(TWO, target, plan, NO_RESULT)

    def test_of_a_plan_that_is_not_feasible_it_need_not_be_better(self):
        self.check(TWO, (7, 1), [0, 1], [19, 7, 1, 1, 1])
        self.check(TWO, (13, 2), [0, 1], [30, 4, 1, 0, 2])
        self.check(TWO, (4, 1), [0, 1], [30, 4, 1, 0, 2])
        self.check(TWO, (3, 1), [0, 2], [35, 3, 1, 1, 2])
        self.check(TWO, (5, 2), [1, 2], [47, 5, 2, 2, 2])

    def test_a_cheaper_plan_that_is_not_feasible_is_not_found(self):
        self.check([(12, 1, [single(3, 1), single(2, 9), single(1, 5)])], (2, 1), [1], [5, 1, 1, 2])
        self.check([(12, 1, [single(3, 1), single(2, 9)])], (2, 1), [1], NO_RESULT)

    def test_no_feasible_plan_near(self):
        self.check(TWO, (3, 1), [0, 1], NO_RESULT)
        self.check(TWO, (0, 1), [2, 2], NO_RESULT)
        self.check([(12, 1, [single(3, 1)])], (2, 1), [0], NO_RESULT)

    def test_no_other_plan(self):
        self.check([(12, 1, [single(3, 1)])] * 4, (100, 1), [0, 0, 0, 0], NO_RESULT)

    def test_same_cost_and_a_smaller_number_is_better(self):
        options = [single(3, 5), single(4, 5), single(2, 5), single(2, 5)]
        for plan in ([0], [1]):
            self.check([(12, 1, options)], (9, 1), plan, [5, 2, 1, 2])

    def test_same_cost_and_number_is_not_better(self):
        for plan in ([0], [1]):
            self.check([(12, 1, [single(2, 5), single(2, 5)])], (9, 1), plan, NO_RESULT)
            # No matter if the target is met exactly; and beyond it the other one isn't feasible either.
            self.check([(12, 1, [single(2, 5), single(2, 5)])], (2, 1), plan, NO_RESULT)
            self.check([(12, 1, [single(2, 5), single(2, 5)])], (1, 1), plan, NO_RESULT)

    def test_the_first_option_of_several(self):
        options = [single(2, 9), single(2, 5), single(2, 5), single(2, 8)]
        self.check([(12, 1, options)], (9, 1), [0], [5, 2, 1, 1])
        self.check([(12, 1, options)], (9, 1), [3], [5, 2, 1, 1])

    def test_the_first_station_of_several(self):
        # [1, 1] and [0, 0] are as good; the former changes the first station, though it comes later as a plan.
        stations = [(12, 1, [single(2, 9), single(2, 5)]), (12, 1, [single(2, 5), single(2, 9)])]
        self.check(stations, (9, 1), [0, 1], [14, 4, 1, 1, 1])
        self.check(stations, (4, 1), [0, 1], [14, 4, 1, 1, 1])

    def test_a_better_one_of_a_later_station(self):
        stations = [(12, 1, [single(2, 9), single(2, 5)]), (12, 1, [single(2, 9), single(2, 5), single(2, 4)])]
        self.check(stations, (9, 1), [0, 0], [13, 4, 1, 0, 2])

    def test_weight_0(self):
        stations = [(12, 0, [single(2, 5), single(1, 5), single(6, 4), (1, 12, 0)])]
        self.check(stations, (0, 1), [0], [4, 0, 1, 2])
        self.check(stations, (0, 1), [2], NO_RESULT)

    def test_four_stations_of_six_options(self):
        options = [single(number, 30 - number) for number in (12, 6, 4, 3, 2, 1)]
        stations = [(12, 1, options)] * 4
        self.check(stations, (48, 1), [5, 5, 5, 5], [105, 15, 1, 0, 5, 5, 5])
        self.check(stations, (8, 1), [5, 5, 5, 5], [113, 7, 1, 2, 5, 5, 5])
        self.check(stations, (20, 1), [0, 2, 4, 5], [100, 20, 1, 0, 2, 3, 5])

    def test_the_limit(self):
        stations = [(12, 1, [single(2, 5), single(1, 9), part(2, 10)])]
        self.check(stations, (9, 1), [1], [5, 2, 1, 0], (2, 3))
        self.check(stations, (9, 1), [1], NO_RESULT, (1, 2))
        self.check(stations, (9, 1), [2], [9, 1, 1, 1], (1, 2))
        self.check(stations, (9, 1), [0], NOT_ALLOWED, (1, 2))

    def test_not_a_plan(self):
        for plan in NO_PLANS_OF_TWO:
            self.check(TWO, (9, 1), plan, OUT_OF_RANGE)

    def test_not_allowed(self):
        for plan in NOT_ALLOWED_OF_TWO:
            self.check(TWO, (100, 1), plan, NOT_ALLOWED)

    def test_a_station_without_options(self):
        for plan in ([], [0], [0, 0]):
            self.check([(12, 1, [single(1, 1)]), (12, 1, [])], (9, 1), plan, OUT_OF_RANGE)


class Reserve(unittest.TestCase):
    def check(self, stations, target, plan, answer, limit=None):
        with self.subTest(stations=stations, target=target, plan=plan, limit=limit):
            self.assertEqual(last(made(stations, target, limit) + [(RESERVE, plan)]), answer)

    def test_up_to_the_target(self):
        # At p percent the number is p / (200 - p).
        rows = [((1, 1), [100]), ((3, 1), [150]), ((2, 1), [133]), ((1, 3), [50]), ((199, 1), [199]), ((198, 1), [198]),
                ((1000000, 1), [199]), ((1, 199), [1]), ((1, 200), NO_RESULT), ((2, 198), [2]), ((1, 100), [1]),
                ((0, 1), NO_RESULT), ((999999, 1000000), [99])]
        for target, answer in rows:
            self.check([(100, 1, [(1, 200, 5)])], target, [0], answer)
            self.check([(1, 1, [(1, 2, 5)])], target, [0], answer)

    def test_the_plan_need_not_be_feasible_as_it_is(self):
        self.check([(100, 1, [(1, 200, 5)])], (1, 3), [0], [50])

    def test_the_plan_has_to_be_allowed_as_it_is(self):
        # At 50 percent each of these would be allowed and feasible.
        for options in ([(1, 100, 5)], [(1, 51, 5)], [(2, 50, 5)]):
            self.check([(100, 1, options)], (1000000, 1), [0], NOT_ALLOWED)
        self.check([(100, 1, [(1, 200, 5)])], (1000000, 1), [0], NOT_ALLOWED, (49, 100))

    def test_below_full_use(self):
        rows = [((1, 101), [100]), ((1, 102), [101]), ((1, 299), [298]), ((1, 300), [299]), ((1, 301), [300]),
                ((1, 1000), [300]), ((10, 13), [129]), ((2, 150), [299]), ((3, 101), [300])]
        for option, answer in rows:
            self.check([(100, 1, [option + (5,)])], (1000000, 1), [0], answer)

    def test_up_to_300(self):
        # At 300 percent the number is 300 / (301 - 300).
        self.check([(100, 1, [(1, 301, 5)])], (300, 1), [0], [300])
        self.check([(100, 1, [(1, 301, 5)])], (299, 1), [0], [299])
        self.check([(100, 1, [(1, 400, 5)])], (3, 1), [0], [300])
        self.check([(100, 1, [(1, 401, 5)])], (3, 1), [0], [300])
        self.check([(100, 1, [(1, 100000, 5)])], (1000000, 1), [0], [300])

    def test_up_to_the_limit(self):
        rows = [((3, 4), [150]), ((1, 2), [100]), ((749, 1000), [149]), ((751, 1000), [150]), ((199, 200), [199]),
                ((1, 1), [199])]
        for limit, answer in rows:
            self.check([(100, 1, [(1, 200, 5)])], (1000000, 1), [0], answer, limit)

    def test_the_limit_or_the_target(self):
        self.check([(100, 1, [(1, 200, 5)])], (2, 1), [0], [133], (3, 4))
        self.check([(100, 1, [(1, 200, 5)])], (3, 1), [0], [150], (3, 4))
        self.check([(100, 1, [(1, 200, 5)])], (4, 1), [0], [150], (3, 4))

    def test_weight_0(self):
        self.check([(100, 0, [(1, 200, 5)])], (0, 1), [0], [199])
        self.check([(100, 0, [(1, 1000, 5)])], (0, 1), [0], [300])
        self.check([(100, 0, [(1, 100, 5)])], (0, 1), [0], NOT_ALLOWED)

    def test_all_stations_grow(self):
        one = (100, 1, [(1, 200, 5)])
        self.check([one, one], (2, 1), [0, 0], [100])
        self.check([one, one, one], (3, 1), [0, 0, 0], [100])
        self.check([one, one, one, one], (12, 1), [0, 0, 0, 0], [150])
        self.check([one, (100, 0, [(1, 120, 5)])], (3, 1), [0, 0], [119])
        self.check([(100, 0, [(1, 120, 5)]), one], (3, 1), [0, 0], [119])

    def test_the_options_of_the_plan(self):
        stations = [(100, 1, [(1, 150, 5), (1, 200, 5), (1, 100, 5)]), (50, 2, [(1, 100, 5), (1, 50, 5), (1, 300, 5)])]
        for first in range(3):
            for second in range(3):
                case = Case(stations, 7)
                percent = case.reserve([first, second])
                answer = NOT_ALLOWED if percent is None else [percent]
                self.check(stations, (7, 1), [first, second], answer)

    def test_each_count_of_servers(self):
        for servers in range(1, 11):
            stations = [(99, 3, [(servers, 199 // servers, 5)]), (7, 1, [(11 - servers, 9, 2)])]
            self.check(stations, (20, 3), [0, 0], [Case(stations, Fraction(20, 3)).reserve([0, 0])])

    def test_the_instance_stays(self):
        ahead = made([(100, 1, [(1, 200, 5)])], (3, 1))
        asked = [(RESERVE, [0]), (RESERVE, [0]), (SET_WEIGHT, 0, 3), (RESERVE, [0])]
        self.assertEqual(ask_after(ahead, asked), [[150], [150], [1], [100]])

    def test_not_a_plan(self):
        for plan in NO_PLANS_OF_TWO:
            self.check(TWO, (9, 1), plan, OUT_OF_RANGE)

    def test_not_allowed(self):
        for plan in NOT_ALLOWED_OF_TWO:
            self.check(TWO, (100, 1), plan, NOT_ALLOWED)

    def test_a_station_without_options(self):
        for plan in ([], [0], [0, 0]):
            self.check([(12, 1, [single(1, 1)]), (12, 1, [])], (9, 1), plan, OUT_OF_RANGE)


if __name__ == "__main__":
    unittest.main()
