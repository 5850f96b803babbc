"""Operations 1 to 7: what they change, the edges of their ranges, and the order of their errors."""

import unittest

from asking import (
    ADD_OPTION, ALLOWED, BEST, COUNTS, CREATE, DOMINATED, EVALUATE, FRONTIER, GREATEST, MISSING, NO_RESULT,
    OPTION_INFO, OPTION_NUMBER, OUT_OF_RANGE, REMOVE_OPTION, SET_ARRIVAL, SET_COST, SET_LIMIT, SET_TARGET, SET_WEIGHT,
    SUMMARY, TOO_MANY, ask, ask_after,
)

# Two stations, the first with three options, all allowed, and the second with none.
AHEAD = [
    (CREATE, 2), (SET_ARRIVAL, 0, 3), (SET_WEIGHT, 0, 5), (SET_LIMIT, 3, 4), (SET_TARGET, 14, 8),
    (ADD_OPTION, 0, 1, 6, 10), (ADD_OPTION, 0, 2, 3, 20), (ADD_OPTION, 0, 3, 2, 30),
]
# What the calls tell of the state; at the limit, 3/4, the fourth option is allowed, and with arrival 5 none is.
STATE = [
    (SUMMARY,), (BEST,), (OPTION_INFO, 0, 0), (OPTION_INFO, 0, 1), (OPTION_INFO, 0, 2), (OPTION_INFO, 0, 3),
    (OPTION_NUMBER, 0, 0), (OPTION_NUMBER, 0, 1), (OPTION_NUMBER, 0, 2),
    (ALLOWED, 0), (DOMINATED, 0), (ALLOWED, 1), (DOMINATED, 1), (ALLOWED, 2), (OPTION_INFO, 1, 0),
    (ADD_OPTION, 0, 1, 4, 0), (ALLOWED, 0), (OPTION_INFO, 0, 3), (SET_ARRIVAL, 0, 5), (ALLOWED, 0),
    (ADD_OPTION, 1, 3, 1, 9), (OPTION_NUMBER, 1, 0), (SET_WEIGHT, 0, 1),
    (SET_ARRIVAL, 1, 1), (SET_WEIGHT, 1, 1), (SET_COST, 0, 0, 1),
]


class StateAhead(unittest.TestCase):
    def test_what_the_state_answers(self):
        self.assertEqual(ask_after(AHEAD, STATE), [
            [2, 7, 4, 3, 4, 3, 0], NO_RESULT, [1, 6, 10, 1, 2], [2, 3, 20, 1, 2], [3, 2, 30, 1, 2], MISSING,
            [0, 1, 1, 5, 1], [0, 4, 3, 20, 3], [0, 33, 19, 165, 19],
            [3, 0, 1, 2], [2, 1, 2], [0], [0], MISSING, MISSING,
            [3], [4, 0, 1, 2, 3], [1, 4, 0, 3, 4], [3], [0],
            [0], [0, 23, 22, 23, 22], [5],
            [1], [1], [10],
        ])


class Changes(unittest.TestCase):
    def check(self, asked, expected, ahead=AHEAD):
        self.assertEqual(ask_after(ahead, asked), expected)

    def check_refused(self, calls, error):
        """Each call answers the error, and what is asked of the state is as without it."""
        kept = ask_after(AHEAD, STATE)
        for call in calls:
            with self.subTest(call=call):
                self.assertEqual(ask_after(AHEAD, [call] + STATE), [error] + kept)


class SetArrival(Changes):
    def test_old_arrival(self):
        self.check([(SET_ARRIVAL, 0, 4), (SET_ARRIVAL, 0, 2), (SET_ARRIVAL, 1, 7), (SET_ARRIVAL, 0, 2)],
                   [[3], [4], [1], [2]])

    def test_changes_the_utilization(self):
        self.check([(SET_ARRIVAL, 0, 4), (OPTION_INFO, 0, 1), (OPTION_NUMBER, 0, 0)],
                   [[3], [2, 3, 20, 2, 3], [0, 2, 1, 10, 1]])

    def test_edges(self):
        self.check([(SET_ARRIVAL, 1, 1), (SET_ARRIVAL, 1, 100000), (SET_ARRIVAL, 1, 1)], [[1], [1], [100000]])

    def test_outside(self):
        self.check_refused([(SET_ARRIVAL, 0, 0), (SET_ARRIVAL, 0, 100001), (SET_ARRIVAL, 1, GREATEST)], OUT_OF_RANGE)

    def test_no_station(self):
        self.check_refused([(SET_ARRIVAL, 2, 1), (SET_ARRIVAL, GREATEST, 1)], MISSING)

    def test_no_station_comes_first(self):
        self.check_refused([(SET_ARRIVAL, 2, 0), (SET_ARRIVAL, 2, 100001)], MISSING)


class SetWeight(Changes):
    def test_old_weight(self):
        self.check([(SET_WEIGHT, 0, 4), (SET_WEIGHT, 0, 2), (SET_WEIGHT, 1, 7), (SET_WEIGHT, 0, 2)],
                   [[5], [4], [1], [2]])

    def test_changes_the_weighted_number_alone(self):
        self.check([(SET_WEIGHT, 0, 7), (OPTION_NUMBER, 0, 1), (OPTION_INFO, 0, 1)],
                   [[5], [0, 4, 3, 28, 3], [2, 3, 20, 1, 2]])

    def test_edges(self):
        self.check([(SET_WEIGHT, 0, 0), (SET_WEIGHT, 0, 1000), (SET_WEIGHT, 0, 0)], [[5], [0], [1000]])

    def test_outside(self):
        self.check_refused([(SET_WEIGHT, 0, 1001), (SET_WEIGHT, 1, GREATEST)], OUT_OF_RANGE)

    def test_no_station(self):
        self.check_refused([(SET_WEIGHT, 2, 0), (SET_WEIGHT, GREATEST, 0)], MISSING)

    def test_no_station_comes_first(self):
        self.check_refused([(SET_WEIGHT, 2, 1001), (SET_WEIGHT, 2, GREATEST)], MISSING)


class SetTarget(Changes):
    def test_edges(self):
        rows = [((0, 1), [0, 1]), ((1000000, 1), [1000000, 1]), ((0, 1000000), [0, 1]), ((1000000, 1000000), [1, 1]),
                ((1, 1000000), [1, 1000000]), ((7, 4), [7, 4]), ((4, 7), [4, 7]), ((6, 4), [3, 2])]
        for passed, target in rows:
            with self.subTest(passed=passed):
                self.check([(SET_TARGET, *passed), (SUMMARY,)], [[0], [2] + target + [3, 4, 3, 0]])

    def test_changes_nothing_else(self):
        rest = STATE[1:]
        self.check([(SET_TARGET, 0, 1)] + rest, [[0]] + ask_after(AHEAD, rest))

    def test_changes_what_is_feasible(self):
        ahead = [(CREATE, 1), (ADD_OPTION, 0, 1, 3, 9), (ADD_OPTION, 0, 1, 2, 5)]
        asked = [(BEST,), (SET_TARGET, 1, 2), (BEST,), (SET_TARGET, 1, 1), (BEST,), (SET_TARGET, 1, 3), (BEST,)]
        self.check(asked, [NO_RESULT, [0], [9, 1, 2, 0], [0], [5, 1, 1, 1], [0], NO_RESULT], ahead)

    def test_outside(self):
        self.check_refused([
            (SET_TARGET, 1000001, 1), (SET_TARGET, GREATEST, 1), (SET_TARGET, 0, 0), (SET_TARGET, 1, 0),
            (SET_TARGET, 1, 1000001), (SET_TARGET, 0, GREATEST), (SET_TARGET, 1000001, 1000001),
            (SET_TARGET, 1000001, 0), (SET_TARGET, GREATEST, GREATEST),
        ], OUT_OF_RANGE)


class SetLimit(Changes):
    def test_an_option_at_the_limit_is_allowed(self):
        self.check([(SET_LIMIT, 1, 2), (ALLOWED, 0)], [[0], [3, 0, 1, 2]])

    def test_an_option_over_the_limit_is_not(self):
        self.check([(SET_LIMIT, 499999, 1000000), (ALLOWED, 0), (SET_LIMIT, 500001, 1000000), (ALLOWED, 0)],
                   [[0], [0], [0], [3, 0, 1, 2]])

    def test_a_limit_needs_no_lowest_terms(self):
        self.check([(SET_LIMIT, 2, 4), (ALLOWED, 0), (SET_LIMIT, 3, 9), (ALLOWED, 0)],
                   [[0], [3, 0, 1, 2], [0], [0]])

    def test_edges(self):
        rows = [((1, 1), [1, 1]), ((1, 2), [1, 2]), ((2, 2), [1, 1]), ((1, 1000000), [1, 1000000]),
                ((999999, 1000000), [999999, 1000000]), ((1000000, 1000000), [1, 1]), ((6, 9), [2, 3])]
        for passed, limit in rows:
            with self.subTest(passed=passed):
                self.check([(SET_LIMIT, *passed), (SUMMARY,)], [[0], [2, 7, 4] + limit + [3, 0]])

    def test_a_limit_of_1_allows_no_full_option(self):
        asked = [(SET_LIMIT, 1000000, 1000000), (SET_ARRIVAL, 0, 6), (ALLOWED, 0), (SET_ARRIVAL, 0, 5), (ALLOWED, 0)]
        self.check(asked, [[0], [3], [0], [6], [3, 0, 1, 2]])

    def test_outside(self):
        self.check_refused([
            (SET_LIMIT, 0, 1), (SET_LIMIT, 0, 1000000), (SET_LIMIT, 2, 1), (SET_LIMIT, 3, 2),
            (SET_LIMIT, 1000000, 999999), (SET_LIMIT, 1, 0), (SET_LIMIT, 0, 0), (SET_LIMIT, 1, 1000001),
            (SET_LIMIT, 1000001, 1000001), (SET_LIMIT, GREATEST, 1), (SET_LIMIT, 1, GREATEST),
            (SET_LIMIT, GREATEST, GREATEST), (SET_LIMIT, 1000001, 1000000),
        ], OUT_OF_RANGE)


class AddOption(Changes):
    def test_numbers_from_0(self):
        self.check([(ADD_OPTION, 1, 1, 2, 3), (ADD_OPTION, 1, 4, 5, 6), (OPTION_INFO, 1, 0), (OPTION_INFO, 1, 1)],
                   [[0], [1], [1, 2, 3, 1, 2], [4, 5, 6, 1, 20]])

    def test_the_same_option_again(self):
        self.check([(ADD_OPTION, 0, 1, 6, 10), (OPTION_INFO, 0, 3), (ALLOWED, 0)],
                   [[3], [1, 6, 10, 1, 2], [4, 0, 1, 2, 3]])

    def test_edges(self):
        self.check([
            (ADD_OPTION, 1, 1, 1, 0), (OPTION_INFO, 1, 0),
            (ADD_OPTION, 1, 10, 100000, 100000), (OPTION_INFO, 1, 1),
        ], [[0], [1, 1, 0, 1, 1], [1], [10, 100000, 100000, 1, 1000000]])

    def test_outside(self):
        self.check_refused([
            (ADD_OPTION, 0, 0, 1, 1), (ADD_OPTION, 0, 11, 1, 1), (ADD_OPTION, 1, GREATEST, 1, 1),
            (ADD_OPTION, 0, 1, 0, 1), (ADD_OPTION, 0, 1, 100001, 1), (ADD_OPTION, 1, 1, GREATEST, 1),
            (ADD_OPTION, 0, 1, 1, 100001), (ADD_OPTION, 1, 1, 1, GREATEST), (ADD_OPTION, 0, 0, 0, GREATEST),
        ], OUT_OF_RANGE)

    def test_no_station(self):
        self.check_refused([(ADD_OPTION, 2, 1, 1, 1), (ADD_OPTION, GREATEST, 1, 1, 1)], MISSING)

    def test_no_station_comes_first(self):
        self.check_refused([(ADD_OPTION, 2, 0, 1, 1), (ADD_OPTION, 2, 1, 0, 1), (ADD_OPTION, 2, 1, 1, 100001)], MISSING)


class SixOptions(Changes):
    FULL = AHEAD + [(ADD_OPTION, 0, 1, 7, cost) for cost in (40, 50, 60)]

    def test_the_sixth_and_the_seventh(self):
        self.assertEqual(ask(self.FULL + [(ADD_OPTION, 0, 1, 7, 70)])[-4:], [[3], [4], [5], TOO_MANY])

    def test_the_seventh_changes_nothing(self):
        asked = [(ALLOWED, 0), (OPTION_INFO, 0, 5), (OPTION_INFO, 0, 6), (OPTION_INFO, 0, 0), (ADD_OPTION, 0, 1, 7, 70)]
        self.check([(ADD_OPTION, 0, 1, 7, 70)] + asked,
                   [TOO_MANY, [6, 0, 1, 2, 3, 4, 5], [1, 7, 60, 3, 7], MISSING, [1, 6, 10, 1, 2], TOO_MANY], self.FULL)

    def test_the_errors_ahead_of_it(self):
        asked = [
            (ADD_OPTION, 0, 11, 7, 70), (ADD_OPTION, 0, 1, 0, 70), (ADD_OPTION, 0, 1, 7, 100001),
            (ADD_OPTION, 2, 1, 7, 70), (ADD_OPTION, 2, 0, 7, 70), (ADD_OPTION, 0, 1, 7, 70),
        ]
        self.check(asked, [OUT_OF_RANGE, OUT_OF_RANGE, OUT_OF_RANGE, MISSING, MISSING, TOO_MANY], self.FULL)

    def test_another_station_has_room(self):
        asked = [(ADD_OPTION, 1, 1, 7, 1) for place in range(7)]
        self.check(asked, [[0], [1], [2], [3], [4], [5], TOO_MANY], self.FULL)

    def test_room_after_one_is_removed(self):
        asked = [(REMOVE_OPTION, 0, 2), (ADD_OPTION, 0, 1, 8, 70), (OPTION_INFO, 0, 5), (ADD_OPTION, 0, 1, 8, 70)]
        self.check(asked, [[5], [5], [1, 8, 70, 3, 8], TOO_MANY], self.FULL)


class RemoveOption(Changes):
    def test_each_place(self):
        infos = [[1, 6, 10, 1, 2], [2, 3, 20, 1, 2], [3, 2, 30, 1, 2]]
        for place in range(3):
            with self.subTest(option=place):
                asked = [(REMOVE_OPTION, 0, place), (OPTION_INFO, 0, 0), (OPTION_INFO, 0, 1), (OPTION_INFO, 0, 2)]
                self.check(asked, [[2]] + infos[:place] + infos[place + 1:] + [MISSING])

    def test_until_none_is_left(self):
        asked = [
            (REMOVE_OPTION, 0, 0), (REMOVE_OPTION, 0, 0), (REMOVE_OPTION, 0, 0), (REMOVE_OPTION, 0, 0),
            (ALLOWED, 0), (ADD_OPTION, 0, 2, 2, 4), (REMOVE_OPTION, 0, 0),
        ]
        self.check(asked, [[2], [1], [0], MISSING, [0], [0], [0]])

    def test_one_of_two_alike(self):
        asked = [(ADD_OPTION, 1, 1, 2, 3), (ADD_OPTION, 1, 1, 4, 3), (ADD_OPTION, 1, 1, 2, 3), (REMOVE_OPTION, 1, 2),
                 (OPTION_INFO, 1, 0), (OPTION_INFO, 1, 1)]
        self.check(asked, [[0], [1], [2], [2], [1, 2, 3, 1, 2], [1, 4, 3, 1, 4]])

    def test_no_station_or_option(self):
        self.check_refused([
            (REMOVE_OPTION, 2, 0), (REMOVE_OPTION, GREATEST, 0), (REMOVE_OPTION, 0, 3), (REMOVE_OPTION, 0, GREATEST),
            (REMOVE_OPTION, 1, 0), (REMOVE_OPTION, 2, 3),
        ], MISSING)


class SetCost(Changes):
    def test_old_cost(self):
        self.check([(SET_COST, 0, 1, 21), (SET_COST, 0, 1, 22), (OPTION_INFO, 0, 1), (OPTION_INFO, 0, 0),
                    (OPTION_INFO, 0, 2)],
                   [[20], [21], [2, 3, 22, 1, 2], [1, 6, 10, 1, 2], [3, 2, 30, 1, 2]])

    def test_edges(self):
        self.check([(SET_COST, 0, 2, 0), (SET_COST, 0, 2, 100000), (SET_COST, 0, 2, 1)], [[30], [0], [100000]])

    def test_one_of_two_alike(self):
        asked = [(ADD_OPTION, 0, 1, 6, 10), (SET_COST, 0, 3, 1), (OPTION_INFO, 0, 0), (OPTION_INFO, 0, 3)]
        self.check(asked, [[3], [10], [1, 6, 10, 1, 2], [1, 6, 1, 1, 2]])

    def test_outside(self):
        self.check_refused([(SET_COST, 0, 0, 100001), (SET_COST, 0, 2, GREATEST)], OUT_OF_RANGE)

    def test_no_station_or_option(self):
        self.check_refused([
            (SET_COST, 2, 0, 1), (SET_COST, GREATEST, 0, 1), (SET_COST, 0, 3, 1), (SET_COST, 0, GREATEST, 1),
            (SET_COST, 1, 0, 1),
        ], MISSING)

    def test_no_station_or_option_comes_first(self):
        self.check_refused([(SET_COST, 2, 0, 100001), (SET_COST, 0, 3, 100001), (SET_COST, 1, 0, GREATEST)], MISSING)


class PlansFollow(unittest.TestCase):
    """What each change does to the plans."""

    AHEAD = [
        (CREATE, 2), (SET_TARGET, 2, 1), (ADD_OPTION, 0, 1, 2, 5), (ADD_OPTION, 0, 1, 3, 9), (ADD_OPTION, 1, 1, 2, 4),
    ]
    ASKED = [(EVALUATE, [1, 0]), (BEST,), (COUNTS,), (FRONTIER,)]

    def check(self, change, expected):
        self.assertEqual(ask_after(self.AHEAD + change, self.ASKED), expected)

    def test_as_it_is(self):
        self.check([], [[13, 3, 2, 1], [9, 2, 1, 0, 0], [2, 2], [2, 9, 2, 1, 0, 0, 13, 3, 2, 1, 0]])

    def test_arrival(self):
        self.check([(SET_ARRIVAL, 0, 2)], [[13, 3, 1, 0], NO_RESULT, [1, 0], [1, 13, 3, 1, 1, 0]])

    def test_weight(self):
        self.check([(SET_WEIGHT, 0, 2)],
                   [[13, 2, 1, 1], [13, 2, 1, 1, 0], [2, 1], [2, 9, 3, 1, 0, 0, 13, 2, 1, 1, 0]])

    def test_limit(self):
        self.check([(SET_LIMIT, 49, 100)], [NO_RESULT, NO_RESULT, [0, 0], [0]])

    def test_added_option(self):
        self.check([(ADD_OPTION, 1, 1, 3, 4)],
                   [[13, 3, 2, 1], [9, 3, 2, 0, 1], [4, 4], [2, 9, 3, 2, 0, 1, 13, 1, 1, 1, 1]])

    def test_removed_option(self):
        self.check([(REMOVE_OPTION, 0, 0)], [OUT_OF_RANGE, [13, 3, 2, 0, 0], [1, 1], [1, 13, 3, 2, 0, 0]])

    def test_cost(self):
        self.check([(SET_COST, 0, 1, 5)], [[9, 3, 2, 1], [9, 3, 2, 1, 0], [2, 2], [1, 9, 3, 2, 1, 0]])


class CreateRefused(Changes):
    def test_a_create_outside_changes_nothing(self):
        self.check_refused([(CREATE, 0), (CREATE, 5), (CREATE, GREATEST)], OUT_OF_RANGE)


if __name__ == "__main__":
    unittest.main()
