"""The document's example, whole, row by row."""

import unittest

from asking import (
    ADD_OPTION, ALLOWED, BEST, BEST_BOUND, BEST_FOR, BOUND, COMPARE_PLANS, COUNTS, CREATE, DOMINATED, EVALUATE,
    FRONTIER, IMPROVEMENT, OPTION_INFO, OPTION_NUMBER, REMOVE_OPTION, RESERVE, SET_ARRIVAL, SET_COST, SET_LIMIT,
    SET_TARGET, SET_WEIGHT, SUMMARY, ask, ask_after,
)

ROWS = [
    ((BEST_BOUND,), [-11]),
    ((CREATE, 2), [0]),
    ((SET_ARRIVAL, 0, 2), [1]),
    ((SET_ARRIVAL, 1, 3), [1]),
    ((ADD_OPTION, 0, 1, 4, 10), [0]),
    ((ADD_OPTION, 0, 1, 6, 16), [1]),
    ((ADD_OPTION, 1, 1, 6, 5), [0]),
    ((ADD_OPTION, 1, 2, 3, 9), [1]),
    ((ADD_OPTION, 1, 1, 3, 1), [2]),
    ((OPTION_INFO, 1, 1), [2, 3, 9, 1, 2]),
    ((OPTION_NUMBER, 1, 1), [0, 4, 3, 4, 3]),
    ((OPTION_NUMBER, 1, 2), [-33]),
    ((ALLOWED, 1), [2, 0, 1]),
    ((DOMINATED, 1), [1, 1]),
    ((BEST,), [-33]),
    ((SET_TARGET, 5, 2), [0]),
    ((BEST,), [15, 2, 1, 0, 0]),
    ((EVALUATE, [0, 1]), [19, 7, 3, 1]),
    ((EVALUATE, [0, 2]), [-33]),
    ((EVALUATE, [0]), [-22]),
    ((BEST_FOR, 3, 2), [21, 3, 2, 1, 0]),
    ((BEST_FOR, 1, 1), [-33]),
    ((FRONTIER,), [2, 15, 2, 1, 0, 0, 21, 3, 2, 1, 0]),
    ((COUNTS,), [4, 4]),
    ((BOUND, 2, 1), [0, 14, 1]),
    ((BEST_BOUND,), [0, 0, 1, 15, 1]),
    ((SET_TARGET, 7, 4), [0]),
    ((BEST,), [21, 3, 2, 1, 0]),
    ((BEST_BOUND,), [0, 12, 1, 18, 1]),
    ((IMPROVEMENT, [1, 1]), [21, 3, 2, 1, 0]),
    ((IMPROVEMENT, [1, 0]), [-33]),
    ((RESERVE, [1, 0]), [108]),
    ((COMPARE_PLANS, [0, 0], [1, 0]), [0, 6, -1, 2]),
    ((SET_WEIGHT, 1, 3), [1]),
    ((OPTION_NUMBER, 1, 0), [0, 1, 1, 3, 1]),
    ((SET_LIMIT, 2, 5), [0]),
    ((ALLOWED, 0), [1, 1]),
    ((COUNTS,), [0, 0]),
    ((BOUND, 0, 1), [-33]),
    ((BEST_BOUND,), [-33]),
    ((SET_LIMIT, 3, 2), [-22]),
    ((REMOVE_OPTION, 1, 2), [2]),
    ((SET_COST, 1, 0, 3), [5]),
    ((SET_WEIGHT, 2, 0), [-2]),
    ((ADD_OPTION, 0, 11, 1, 1), [-22]),
    ((SUMMARY,), [2, 7, 4, 2, 5, 2, 2]),
]
# The rows up to the last option.
STATIONS = [call for call, answer in ROWS[1:9]]


class Example(unittest.TestCase):
    def test_each_row(self):
        found = ask([call for call, answer in ROWS])
        for place, (call, answer) in enumerate(ROWS):
            with self.subTest(row=place, call=call):
                self.assertEqual(found[place], answer)

    def test_numbers_below_the_example(self):
        asked = [(OPTION_NUMBER, 0, 0), (OPTION_NUMBER, 0, 1), (OPTION_NUMBER, 1, 0), (OPTION_NUMBER, 1, 1)]
        self.assertEqual(ask_after(STATIONS, asked), [
            [0, 1, 1, 1, 1],
            [0, 1, 2, 1, 2],
            [0, 1, 1, 1, 1],
            [0, 4, 3, 4, 3],
        ])

    def test_multiplier_below_the_example(self):
        # Both options of station 0 have the value 22, and the bound is 22 + 17 - 21.
        asked = [(SET_TARGET, 7, 4), (BOUND, 12, 1), (BOUND, 0, 1)]
        self.assertEqual(ask_after(STATIONS, asked), [[0], [0, 18, 1], [0, 15, 1]])


if __name__ == "__main__":
    unittest.main()
