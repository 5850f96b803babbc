"""Operations 12 to 16 and 21: plans, the best of them, the frontier, and how two compare."""

import unittest

from asking import (
    BEST, BEST_FOR, COMPARE_PLANS, COUNTS, CREATE, EVALUATE, FRONTIER, GREATEST, NO_RESULT, NOT_ALLOWED,
    OUT_OF_RANGE, SET_COST, SET_LIMIT, SET_TARGET, SET_WEIGHT, SUMMARY, ask_after, last, made, part, single,
)

# Numbers 2, 1 and 1/2 at station 0, 3 and 1 at station 1, the latter with weight 2; each has an option that
# isn't allowed, at station 0 the last and at station 1 the first one.
TWO = [
    (12, 1, [single(2, 10), single(1, 15), part(2, 27), (1, 12, 1)]),
    (12, 2, [(1, 11, 0), single(3, 4), single(1, 20)]),
]
NO_PLANS_OF_TWO = [
    [], [0], [1], [0, 1, 0], [0, 1, 0, 0], [0] * 6, [4, 1], [0, 3], [4, 3], [GREATEST, 1], [0, GREATEST],
    [GREATEST] * 2, [GREATEST] * 6, [4], [1, 4],
]
NOT_ALLOWED_OF_TWO = [[3, 1], [0, 0], [3, 0], [2, 0], [3, 2]]


class Asked(unittest.TestCase):
    def check(self, ahead, asked, expected):
        self.assertEqual(ask_after(ahead, asked), expected)

    def check_each(self, ahead, calls, expected):
        for call in calls:
            with self.subTest(call=call):
                self.assertEqual(last(ahead + [call]), expected)


class Evaluate(Asked):
    def test_cost_and_number_of_each_plan(self):
        asked = [(EVALUATE, [first, second]) for first in range(3) for second in (1, 2)]
        self.check(made(TWO, (9, 2)), asked, [
            [14, 8, 1, 0], [30, 4, 1, 1], [19, 7, 1, 0], [35, 3, 1, 1], [31, 13, 2, 0], [47, 5, 2, 1],
        ])

    def test_at_the_target(self):
        for target, feasible in (((8, 1), 1), ((999999, 125000), 0), ((1000000, 125000), 1), ((1000000, 124999), 1)):
            with self.subTest(target=target):
                self.check(made(TWO, target), [(EVALUATE, [0, 1])], [[14, 8, 1, feasible]])

    def test_one_station(self):
        self.check(made([(12, 5, [single(6, 7)])], (30, 1)), [(EVALUATE, [0])], [[7, 30, 1, 1]])

    def test_four_stations_of_six_options(self):
        options = [single(number, number * 10) for number in (12, 6, 4, 3, 2, 1)]
        stations = [(12, weight, options) for weight in (1, 2, 3, 4)]
        asked = [(EVALUATE, [0, 0, 0, 0]), (EVALUATE, [5, 5, 5, 5]), (EVALUATE, [1, 2, 3, 4]), (EVALUATE, [0, 0, 0, 6])]
        self.check(made(stations, (10, 1)), asked, [[480, 120, 1, 0], [40, 10, 1, 1], [150, 31, 1, 0], OUT_OF_RANGE])

    def test_weight_0(self):
        stations = [(12, 0, [single(6, 7), (1, 12, 3)]), (12, 0, [single(4, 8)])]
        asked = [(EVALUATE, [0, 0]), (EVALUATE, [1, 0])]
        self.check(made(stations), asked, [[15, 0, 1, 1], NOT_ALLOWED])

    def test_more_than_64_bits(self):
        stations = [(99991, 997, [(10, 10007, 100000)]), (99989, 991, [(10, 10009, 100000)])]
        answer = last(made(stations, (1000000, 1)) + [(EVALUATE, [0, 0])])
        self.assertEqual((answer[0], answer[3]), (200000, 0))
        self.assertGreater(min(answer[1:3]), 2 ** 64)

    def test_not_a_plan(self):
        self.check_each(made(TWO), [(EVALUATE, plan) for plan in NO_PLANS_OF_TWO], OUT_OF_RANGE)

    def test_no_list_is_a_plan_if_a_station_has_no_options(self):
        ahead = made([TWO[0], (12, 1, [])])
        self.check_each(ahead, [(EVALUATE, plan) for plan in ([], [0], [0, 0], [0, GREATEST])], OUT_OF_RANGE)

    def test_not_allowed(self):
        self.check_each(made(TWO, (9, 1)), [(EVALUATE, plan) for plan in NOT_ALLOWED_OF_TWO], NOT_ALLOWED)

    def test_not_a_plan_comes_first(self):
        plans = [[3], [3, 3], [4, 0], [3, 0, 0], [3, GREATEST]]
        self.check_each(made(TWO), [(EVALUATE, plan) for plan in plans], OUT_OF_RANGE)

    def test_the_limit(self):
        # The utilizations are 2/3 and 1/2 at station 0 and 3/4 and 1/2 at station 1.
        asked = [(SET_LIMIT, 3, 4), (EVALUATE, [0, 1]), (SET_LIMIT, 2, 3), (EVALUATE, [0, 1]), (EVALUATE, [0, 2]),
                 (SET_LIMIT, 1, 2), (EVALUATE, [0, 2]), (EVALUATE, [1, 2])]
        self.check(made(TWO, (9, 1)), asked, [
            [0], [14, 8, 1, 1], [0], NOT_ALLOWED, [30, 4, 1, 1], [0], NOT_ALLOWED, [35, 3, 1, 1],
        ])


class Best(Asked):
    def test_by_target(self):
        # The plans by their costs: 14, 19, 30, 31, 35, 47, with the numbers 8, 7, 4, 13/2, 3, 5/2.
        rows = [((9, 1), [14, 8, 1, 0, 1]), ((8, 1), [14, 8, 1, 0, 1]), ((15, 2), [19, 7, 1, 1, 1]),
                ((7, 1), [19, 7, 1, 1, 1]), ((13, 2), [30, 4, 1, 0, 2]), ((4, 1), [30, 4, 1, 0, 2]),
                ((7, 2), [35, 3, 1, 1, 2]), ((5, 2), [47, 5, 2, 2, 2]), ((249999, 100000), NO_RESULT),
                ((0, 1), NO_RESULT)]
        for target, answer in rows:
            with self.subTest(target=target):
                self.check(made(TWO, target), [(BEST,), (SET_TARGET, 1, 1), (BEST_FOR, *target)], [answer, [0], answer])

    def test_same_cost_takes_the_smaller_number(self):
        for options in ([single(3, 5), single(2, 5), single(4, 5)], [single(2, 5), single(3, 5)]):
            stations = [(12, 1, options)]
            place = options.index(single(2, 5))
            with self.subTest(options=options):
                self.check(made(stations, (9, 1)), [(BEST,), (BEST_FOR, 9, 1)], [[5, 2, 1, place]] * 2)

    def test_a_smaller_number_never_beats_a_smaller_cost(self):
        self.check(made([(12, 1, [part(6, 6), single(12, 5), single(1, 6)])], (12, 1)), [(BEST,)], [[5, 12, 1, 1]])

    def test_same_cost_and_number_takes_the_first(self):
        stations = [(12, 1, [single(2, 9), single(2, 5), single(2, 5)]), (12, 1, [single(3, 5), single(3, 5)])]
        self.check(made(stations, (9, 1)), [(BEST,), (BEST_FOR, 5, 1)], [[10, 5, 1, 1, 0]] * 2)

    def test_first_is_lexicographic(self):
        # [0, 1], [1, 0], [1, 2] and [2, 1] have the same cost and number.
        options = [single(2, 5), single(1, 7), single(2, 5)]
        stations = [(12, 1, options), (12, 1, options)]
        self.check(made(stations, (3, 1)), [(BEST,)], [[12, 3, 1, 0, 1]])
        self.check(made(stations[::-1], (4, 1)), [(BEST,)], [[10, 4, 1, 0, 0]])

    def test_first_is_lexicographic_from_the_first_station_on(self):
        # [0, 1] and [1, 0] have the same cost and number.
        stations = [(12, 1, [single(1, 7), single(2, 5)])] * 2
        self.check(made(stations, (3, 1)), [(BEST,)], [[12, 3, 1, 0, 1]])

    def test_same_number_by_unlike_options(self):
        # With arrival 12, two servers of rate 12 have the number 4/3, and so has one server of rate 21.
        for options in ([(2, 12, 5), (1, 21, 5)], [(1, 21, 5), (2, 12, 5)]):
            self.check(made([(12, 1, options)], (4, 3)), [(BEST,)], [[5, 4, 3, 0]])

    def test_weight_0_leaves_the_cost(self):
        stations = [(12, 0, [single(1, 7), single(12, 5), single(1, 5)]), (12, 0, [(1, 12, 0), single(6, 3)])]
        self.check(made(stations), [(BEST,), (BEST_FOR, 0, 1)], [[8, 0, 1, 1, 1]] * 2)

    def test_weight_0_at_one_station(self):
        stations = [(12, 0, [single(6, 5), single(1, 5)]), (12, 3, [single(2, 4), single(1, 6)])]
        self.check(made(stations, (3, 1)), [(BEST,)], [[11, 3, 1, 0, 1]])

    def test_cost_0(self):
        self.check(made([(12, 1, [single(1, 0)])], (1, 1)), [(BEST,)], [[0, 1, 1, 0]])

    def test_greatest_costs(self):
        stations = [(12, 1000, [single(1, 100000)])] * 4
        self.check(made(stations, (4000, 1)), [(BEST,), (BEST_FOR, 3999, 1)], [[400000, 4000, 1, 0, 0, 0, 0], NO_RESULT])

    def test_what_is_not_allowed_is_never_best(self):
        stations = [(12, 1, [(1, 12, 0), (1, 11, 0), single(6, 5), (1, 1, 1)])]
        self.check(made(stations, (1000000, 1)), [(BEST,)], [[5, 6, 1, 2]])
        self.check(made(stations, (1000000, 1), (2, 3)), [(BEST,), (BEST_FOR, 9, 1)], [NO_RESULT] * 2)

    def test_no_plans(self):
        rows = [[(12, 1, [])], [TWO[0], (12, 1, [])], [(12, 1, []), TWO[0]], [TWO[0], (12, 1, [(1, 12, 0)])],
                [(12, 0, [(1, 12, 0)])]]
        for stations in rows:
            with self.subTest(stations=stations):
                asked = [(BEST,), (BEST_FOR, 1000000, 1), (FRONTIER,), (COUNTS,)]
                self.check(made(stations, (1000000, 1)), asked, [NO_RESULT, NO_RESULT, [0], [0, 0]])


class BestFor(Asked):
    def test_the_target_of_the_instance_has_no_say(self):
        asked = [(BEST_FOR, 8, 1), (BEST_FOR, 3, 1), (BEST_FOR, 2, 1)]
        expected = [[14, 8, 1, 0, 1], [35, 3, 1, 1, 2], NO_RESULT]
        for target in ((0, 1), (5, 1), (100, 1)):
            with self.subTest(target=target):
                self.check(made(TWO, target), asked, expected)

    def test_the_target_of_the_instance_stays(self):
        asked = [(BEST_FOR, 8, 1), (SUMMARY,), (BEST,), (BEST_FOR, 2, 1), (SUMMARY,), (BEST_FOR, 2, 0), (SUMMARY,),
                 (BEST,), (COUNTS,), (EVALUATE, [0, 1])]
        kept = [2, 9, 2, 1, 1, 4, 3]
        best = [30, 4, 1, 0, 2]
        self.check(made(TWO, (9, 2)), asked, [
            [14, 8, 1, 0, 1], kept, best, NO_RESULT, kept, OUT_OF_RANGE, kept, best, [6, 3], [14, 8, 1, 0],
        ])

    def test_edges(self):
        stations = [(12, 0, [single(6, 5)])]
        asked = [(BEST_FOR, num, den) for num in (0, 1000000) for den in (1, 1000000)]
        self.check(made(stations), asked, [[5, 0, 1, 0]] * 4)
        self.check(made([(12, 1, [single(1, 5)])]), asked, [NO_RESULT, NO_RESULT, [5, 1, 1, 0], [5, 1, 1, 0]])

    def test_needs_no_lowest_terms(self):
        self.check(made(TWO), [(BEST_FOR, 24, 3), (BEST_FOR, 23, 3)], [[14, 8, 1, 0, 1], [19, 7, 1, 1, 1]])

    def test_outside(self):
        calls = [(BEST_FOR, *passed) for passed in (
            (1000001, 1), (GREATEST, 1), (1, 0), (0, 0), (1, 1000001), (0, GREATEST), (1000001, 1000001),
            (GREATEST, GREATEST), (1000001, 0))]
        self.check_each(made(TWO, (9, 1)), calls, OUT_OF_RANGE)
        # Ahead of the lack of feasible plans.
        self.check_each([(CREATE, 1)], calls, OUT_OF_RANGE)


class Frontier(Asked):
    def test_each_plan_of_it(self):
        # The plan [2, 1] with the cost 31 and the number 13/2 is dominated by [0, 2].
        self.check(made(TWO), [(FRONTIER,)], [[
            5, 14, 8, 1, 0, 1, 19, 7, 1, 1, 1, 30, 4, 1, 0, 2, 35, 3, 1, 1, 2, 47, 5, 2, 2, 2,
        ]])

    def test_the_target_has_no_say(self):
        expected = last(made(TWO) + [(FRONTIER,)])
        for target in ((0, 1), (4, 1), (1000000, 1)):
            with self.subTest(target=target):
                self.check(made(TWO, target), [(FRONTIER,)], [expected])

    def test_one_plan(self):
        self.check(made([(12, 3, [single(4, 9)])]), [(FRONTIER,)], [[1, 9, 12, 1, 0]])

    def test_ordered_by_cost(self):
        options = [single(2, 7), single(12, 1), single(1, 9), single(4, 3), part(2, 100000), single(3, 5)]
        self.check(made([(12, 1, options)]), [(FRONTIER,)], [[
            6, 1, 12, 1, 1, 3, 4, 1, 3, 5, 3, 1, 5, 7, 2, 1, 0, 9, 1, 1, 2, 100000, 1, 2, 4,
        ]])

    def test_same_cost_and_number_keeps_the_first(self):
        options = [single(3, 8), single(2, 5), single(2, 5), single(1, 7), single(1, 7)]
        self.check(made([(12, 1, options)]), [(FRONTIER,)], [[2, 5, 2, 1, 1, 7, 1, 1, 3]])

    def test_same_cost_and_number_of_two_stations(self):
        stations = [(12, 1, [single(1, 7), single(2, 5)])] * 2
        self.check(made(stations), [(FRONTIER,)], [[3, 10, 4, 1, 1, 1, 12, 3, 1, 0, 1, 14, 2, 1, 0, 0]])

    def test_same_cost_keeps_the_smaller_number(self):
        self.check(made([(12, 1, [single(3, 5), single(2, 5), single(4, 5)])]), [(FRONTIER,)], [[1, 5, 2, 1, 1]])

    def test_same_number_keeps_the_smaller_cost(self):
        self.check(made([(12, 1, [single(3, 6), single(3, 5), single(3, 7)])]), [(FRONTIER,)], [[1, 5, 3, 1, 1]])

    def test_dominated_by_one_far_off(self):
        # The number after the cheapest one's rises and falls again below it.
        options = [single(2, 1), single(4, 2), single(3, 3), single(2, 4), single(1, 5), single(2, 6)]
        self.check(made([(12, 1, options)]), [(FRONTIER,)], [[2, 1, 2, 1, 0, 5, 1, 1, 4]])

    def test_weight_0(self):
        stations = [(12, 0, [single(1, 9), single(2, 5), single(1, 5)]), (12, 0, [single(6, 3), single(1, 4)])]
        self.check(made(stations), [(FRONTIER,)], [[1, 8, 0, 1, 1, 0]])

    def test_what_is_not_allowed_dominates_nothing(self):
        self.check(made([(12, 1, [(1, 12, 0), single(6, 5)])]), [(FRONTIER,)], [[1, 5, 6, 1, 1]])
        self.check(made([(12, 1, [single(2, 0), single(1, 5)])], None, (1, 2)), [(FRONTIER,)], [[1, 5, 1, 1, 1]])

    def test_four_stations_of_six_options(self):
        # Each plan has another cost, and its number is 1554 less the cost: no plan is dominated.
        stations = []
        for weight in (1, 6, 36, 216):
            options = [(1, 60 + 60 // (6 - option), option * weight) for option in range(6)]
            stations.append((60, weight, options))
        answer = last(made(stations) + [(FRONTIER,)])
        rows = [answer[start:start + 7] for start in range(1, len(answer), 7)]
        self.assertEqual(answer[0], 1296)
        self.assertEqual(rows, [
            [cost, 1554 - cost, 1, cost % 6, cost // 6 % 6, cost // 36 % 6, cost // 216] for cost in range(1296)
        ])


class Counts(Asked):
    def test_by_target(self):
        rows = [((0, 1), 0), ((249999, 100000), 0), ((5, 2), 1), ((3, 1), 2), ((4, 1), 3), ((6, 1), 3), ((13, 2), 4),
                ((7, 1), 5), ((8, 1), 6), ((1000000, 1), 6)]
        for target, feasible in rows:
            with self.subTest(target=target):
                self.check(made(TWO, target), [(COUNTS,)], [[6, feasible]])

    def test_the_limit(self):
        rows = [((1, 1), [6, 6]), ((3, 4), [6, 6]), ((2, 3), [3, 3]), ((1, 2), [2, 2]), ((1, 3), [0, 0])]
        for limit, counts in rows:
            with self.subTest(limit=limit):
                self.check(made(TWO, (9, 1), limit), [(COUNTS,)], [counts])

    def test_plans_alike_count_each(self):
        self.check(made([(12, 1, [single(1, 5)] * 6)] * 2, (2, 1)), [(COUNTS,)], [[36, 36]])

    def test_four_stations_of_six_options(self):
        options = [single(number, 1) for number in (1, 2, 3, 4, 6, 12)]
        stations = [(12, 1, options)] * 4
        rows = [((3, 1), 0), ((4, 1), 1), ((5, 1), 5), ((6, 1), 15), ((48, 1), 1296), ((47, 1), 1295), ((41, 1), 1291)]
        for target, feasible in rows:
            with self.subTest(target=target):
                self.check(made(stations, target), [(COUNTS,)], [[1296, feasible]])

    def test_weight_0(self):
        self.check(made([(12, 0, [single(1, 5), (1, 12, 0), single(6, 1)])]), [(COUNTS,)], [[2, 2]])


class ComparePlans(Asked):
    def test_the_first_dominates(self):
        self.check(made(TWO), [(COMPARE_PLANS, [0, 2], [2, 1])], [[1, 1, 5, 2]])

    def test_the_second_dominates(self):
        self.check(made(TWO), [(COMPARE_PLANS, [2, 1], [0, 2])], [[2, -1, -5, 2]])

    def test_neither(self):
        self.check(made(TWO), [(COMPARE_PLANS, [0, 1], [2, 2]), (COMPARE_PLANS, [2, 2], [0, 1])],
                   [[0, 33, -11, 2], [0, -33, 11, 2]])

    def test_the_same_plan(self):
        self.check(made(TWO), [(COMPARE_PLANS, [1, 2], [1, 2])], [[0, 0, 0, 1]])

    def test_ties(self):
        ahead = made([(12, 1, [single(2, 5), single(2, 5), single(1, 5), single(2, 6), single(1, 6)])])
        rows = [([0], [1], [0, 0, 0, 1]), ([0], [2], [2, 0, -1, 1]), ([2], [0], [1, 0, 1, 1]), ([0], [3], [1, 1, 0, 1]),
                ([3], [0], [2, -1, 0, 1]), ([0], [4], [0, 1, -1, 1]), ([2], [3], [1, 1, 1, 1]), ([3], [2], [2, -1, -1, 1])]
        for first, second, answer in rows:
            with self.subTest(first=first, second=second):
                self.check(ahead, [(COMPARE_PLANS, first, second)], [answer])

    def test_weight_0(self):
        ahead = made([(12, 0, [single(2, 5), single(1, 5), single(6, 3)])])
        asked = [(COMPARE_PLANS, [0], [1]), (COMPARE_PLANS, [0], [2]), (COMPARE_PLANS, [2], [1])]
        self.check(ahead, asked, [[0, 0, 0, 1], [2, -2, 0, 1], [1, 2, 0, 1]])

    def test_feasible_has_no_say(self):
        for target in ((0, 1), (5, 1), (100, 1)):
            with self.subTest(target=target):
                self.check(made(TWO, target), [(COMPARE_PLANS, [0, 2], [2, 1])], [[1, 1, 5, 2]])

    def test_greatest_differences(self):
        stations = [(99999, 1000, [(1, 100000, 0), (10, 100000, 100000)])] * 4
        asked = [(COMPARE_PLANS, [0] * 4, [1] * 4), (COMPARE_PLANS, [1] * 4, [0] * 4)]
        answers = ask_after(made(stations), asked)
        self.assertEqual([answer[:2] for answer in answers], [[0, 400000], [0, -400000]])
        self.assertEqual(answers[0][2:], [-answers[1][2], answers[1][3]])
        self.assertGreater(answers[1][2], 2 ** 64)

    def test_not_a_plan(self):
        calls = [(COMPARE_PLANS, plan, [0, 1]) for plan in NO_PLANS_OF_TWO]
        calls += [(COMPARE_PLANS, [0, 1], plan) for plan in NO_PLANS_OF_TWO]
        calls += [(COMPARE_PLANS, plan, plan) for plan in NO_PLANS_OF_TWO]
        self.check_each(made(TWO), calls, OUT_OF_RANGE)

    def test_not_allowed(self):
        calls = [(COMPARE_PLANS, plan, [0, 1]) for plan in NOT_ALLOWED_OF_TWO]
        calls += [(COMPARE_PLANS, [0, 1], plan) for plan in NOT_ALLOWED_OF_TWO]
        calls += [(COMPARE_PLANS, plan, plan) for plan in NOT_ALLOWED_OF_TWO]
        self.check_each(made(TWO, (100, 1)), calls, NOT_ALLOWED)

    def test_not_a_plan_comes_first_in_either(self):
        calls = [(COMPARE_PLANS, [3, 1], [0]), (COMPARE_PLANS, [0, 3], [0, 0]), (COMPARE_PLANS, [3, 0], []),
                 (COMPARE_PLANS, [0, 1, 0], [3, 1]), (COMPARE_PLANS, [3, 0, 0], [3, 0])]
        self.check_each(made(TWO), calls, OUT_OF_RANGE)


class Summary(Asked):
    def test_as_it_is_set(self):
        self.check(made(TWO, (12, 8), (6, 8)), [(SUMMARY,)], [[2, 3, 2, 3, 4, 4, 3]])

    def test_options_that_are_not_allowed_count(self):
        self.check(made([(12, 1, [(1, 1, 0)] * 6), (12, 1, [])]), [(SUMMARY,)], [[2, 0, 1, 1, 1, 6, 0]])

    def test_four_stations(self):
        stations = [(12, 1, [single(1, 1)] * count) for count in (6, 0, 1, 5)]
        self.check(made(stations, (1000000, 999999), (999999, 1000000)), [(SUMMARY,)],
                   [[4, 1000000, 999999, 999999, 1000000, 6, 0, 1, 5]])

    def test_after_a_target_and_a_limit_that_failed(self):
        asked = [(SET_TARGET, 1, 0), (SET_LIMIT, 3, 2), (SET_COST, 0, 0, 100001), (SET_WEIGHT, 2, 1), (SUMMARY,)]
        self.assertEqual(ask_after(made(TWO, (3, 1), (3, 4)), asked)[-1], [2, 3, 1, 3, 4, 4, 3])


if __name__ == "__main__":
    unittest.main()
