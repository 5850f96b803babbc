"""Operation 0, and -11 ahead of it."""

import unittest

from asking import (
    ADD_OPTION, ALLOWED, BEST, BEST_BOUND, BEST_FOR, BOUND, COMPARE_PLANS, COUNTS, CREATE, DOMINATED, EVALUATE,
    FRONTIER, GREATEST, IMPROVEMENT, MISSING, NO_INSTANCE, NO_RESULT, OPTION_INFO, OPTION_NUMBER, OUT_OF_RANGE,
    REMOVE_OPTION, RESERVE, SET_ARRIVAL, SET_COST, SET_LIMIT, SET_TARGET, SET_WEIGHT, SUMMARY, ask, ask_after, last,
)

IN_RANGE = [
    (SET_ARRIVAL, 0, 1), (SET_WEIGHT, 0, 1), (SET_TARGET, 1, 1), (SET_LIMIT, 1, 1), (ADD_OPTION, 0, 1, 1, 1),
    (REMOVE_OPTION, 0, 0), (SET_COST, 0, 0, 1), (OPTION_INFO, 0, 0), (OPTION_NUMBER, 0, 0), (ALLOWED, 0),
    (DOMINATED, 0), (EVALUATE, [0]), (BEST,), (BEST_FOR, 1, 1), (FRONTIER,), (COUNTS,), (BOUND, 1, 1), (BEST_BOUND,),
    (IMPROVEMENT, [0]), (RESERVE, [0]), (COMPARE_PLANS, [0], [0]), (SUMMARY,),
]
OUTSIDE = [
    (SET_ARRIVAL, 9, 0), (SET_WEIGHT, 9, GREATEST), (SET_TARGET, GREATEST, 0), (SET_LIMIT, 0, 0),
    (ADD_OPTION, 9, 0, 0, GREATEST), (REMOVE_OPTION, 9, 9), (SET_COST, 9, 9, GREATEST), (OPTION_INFO, 9, 9),
    (OPTION_NUMBER, 9, 9), (ALLOWED, 9), (DOMINATED, GREATEST), (EVALUATE, []), (EVALUATE, [GREATEST] * 6),
    (BEST_FOR, GREATEST, 0), (BOUND, 0, 0), (IMPROVEMENT, []), (IMPROVEMENT, [9] * 6), (RESERVE, []),
    (RESERVE, [GREATEST]), (COMPARE_PLANS, [], []), (COMPARE_PLANS, [9], [0, 0, 0, 0, 0, 0]),
]


class NoInstanceYet(unittest.TestCase):
    def test_each_other_operation(self):
        for call in IN_RANGE + OUTSIDE:
            with self.subTest(call=call):
                self.assertEqual(ask([call]), [NO_INSTANCE])

    def test_still_none_after_a_create_that_failed(self):
        for call in IN_RANGE + OUTSIDE:
            with self.subTest(call=call):
                self.assertEqual(ask([(CREATE, 5), call]), [OUT_OF_RANGE, NO_INSTANCE])

    def test_create_after_a_refused_call(self):
        self.assertEqual(ask([(ALLOWED, 0), (CREATE, 1), (ALLOWED, 0)]), [NO_INSTANCE, [0], [0]])


class Create(unittest.TestCase):
    def test_station_counts_in_range(self):
        for count in (1, 2, 3, 4):
            with self.subTest(count=count):
                asked = [(CREATE, count), (ALLOWED, count - 1), (ALLOWED, count)]
                self.assertEqual(ask(asked), [[0], [0], MISSING])

    def test_station_counts_outside(self):
        for count in (0, 5, 6, GREATEST):
            with self.subTest(count=count):
                self.assertEqual(ask([(CREATE, count)]), [OUT_OF_RANGE])

    def test_state_after_create(self):
        for place in range(4):
            with self.subTest(station=place):
                asked = [(ALLOWED, place), (SET_ARRIVAL, place, 2), (SET_WEIGHT, place, 2),
                         (ADD_OPTION, place, 1, 5, 0)]
                self.assertEqual(ask_after([(CREATE, 4)], asked), [[0], [1], [1], [0]])

    def test_summary_after_create(self):
        for count in (1, 2, 3, 4):
            with self.subTest(count=count):
                self.assertEqual(ask([(CREATE, count), (SUMMARY,)]), [[0], [count, 0, 1, 1, 1] + [0] * count])

    def test_no_plans_after_create(self):
        asked = [(BEST,), (BEST_FOR, 9, 1), (FRONTIER,), (COUNTS,), (BOUND, 0, 1), (BEST_BOUND,), (EVALUATE, [0, 0])]
        self.assertEqual(ask_after([(CREATE, 2)], asked), [
            NO_RESULT, NO_RESULT, [0], [0, 0], NO_RESULT, NO_RESULT, OUT_OF_RANGE,
        ])

    def test_target_after_create_is_0(self):
        ahead = [(CREATE, 1), (ADD_OPTION, 0, 1, 100000, 3)]
        asked = [(EVALUATE, [0]), (COUNTS,), (BEST,), (SET_WEIGHT, 0, 0), (EVALUATE, [0]), (COUNTS,), (BEST,)]
        self.assertEqual(ask_after(ahead, asked), [
            [3, 1, 99999, 0], [1, 0], NO_RESULT, [1], [3, 0, 1, 1], [1, 1], [3, 0, 1, 0],
        ])

    def test_limit_after_create_is_1(self):
        ahead = [(CREATE, 1), (SET_ARRIVAL, 0, 99999), (ADD_OPTION, 0, 1, 100000, 0), (ADD_OPTION, 0, 1, 99999, 0)]
        self.assertEqual(ask_after(ahead, [(ALLOWED, 0)]), [[1, 0]])

    def test_stations_are_apart(self):
        ahead = [(CREATE, 2), (SET_ARRIVAL, 0, 3), (SET_WEIGHT, 0, 5), (ADD_OPTION, 0, 1, 6, 7)]
        asked = [(ALLOWED, 0), (ALLOWED, 1), (SET_ARRIVAL, 1, 9), (SET_WEIGHT, 1, 9), (OPTION_INFO, 1, 0)]
        self.assertEqual(ask_after(ahead, asked), [[1, 0], [0], [1], [1], MISSING])


class CreateOverAnInstance(unittest.TestCase):
    AHEAD = [
        (CREATE, 2), (SET_ARRIVAL, 0, 3), (SET_WEIGHT, 0, 5), (SET_LIMIT, 1, 2), (SET_TARGET, 9, 6),
        (ADD_OPTION, 0, 1, 6, 7), (ADD_OPTION, 1, 2, 3, 4),
    ]

    def test_a_create_that_succeeds_replaces_it(self):
        asked = [
            (SUMMARY,), (CREATE, 1), (SUMMARY,), (ALLOWED, 0), (ALLOWED, 1), (OPTION_INFO, 0, 0), (SET_ARRIVAL, 0, 9),
            (SET_WEIGHT, 0, 5), (ADD_OPTION, 0, 1, 10, 0), (ALLOWED, 0), (OPTION_NUMBER, 0, 0),
        ]
        self.assertEqual(ask_after(self.AHEAD, asked), [
            [2, 3, 2, 1, 2, 1, 1], [0], [1, 0, 1, 1, 1, 0], [0], MISSING, MISSING, [1],
            [1], [0], [1, 0], [0, 9, 1, 45, 1],
        ])

    def test_with_as_many_stations_too(self):
        asked = [(CREATE, 2), (ALLOWED, 0), (ALLOWED, 1), (SET_ARRIVAL, 0, 9), (SET_WEIGHT, 0, 5)]
        self.assertEqual(ask_after(self.AHEAD, asked), [[0], [0], [0], [1], [1]])

    def test_a_create_that_fails_keeps_it(self):
        for count in (0, 5, GREATEST):
            with self.subTest(count=count):
                asked = [
                    (CREATE, count), (OPTION_INFO, 0, 0), (OPTION_NUMBER, 0, 0), (OPTION_INFO, 1, 0),
                    (ALLOWED, 2), (ADD_OPTION, 0, 1, 5, 1), (ALLOWED, 0),
                ]
                self.assertEqual(ask_after(self.AHEAD, asked), [
                    OUT_OF_RANGE, [1, 6, 7, 1, 2], [0, 1, 1, 5, 1], [2, 3, 4, 1, 6],
                    MISSING, [1], [1, 0],
                ])

    def test_stations_that_are_gone(self):
        self.assertEqual(last([(CREATE, 4), (CREATE, 3), (ALLOWED, 3)]), MISSING)
        self.assertEqual(last([(CREATE, 3), (CREATE, 4), (ALLOWED, 3)]), [0])


if __name__ == "__main__":
    unittest.main()
