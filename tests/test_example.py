"""The document's example, row by row, as far as its calls belong here."""

import unittest

from asking import (
    ADD_OPTION, ALLOWED, CREATE, DOMINATED, OPTION_INFO, OPTION_NUMBER, REMOVE_OPTION,
    SET_ARRIVAL, SET_COST, SET_LIMIT, SET_TARGET, SET_WEIGHT, ask,
)

ROWS = [
    ((CREATE, 2), [0]),
    ((SET_ARRIVAL, 0, 2), [1]),
    ((SET_ARRIVAL, 1, 3), [1]),
    ((ADD_OPTION, 0, 1, 4, 10), [0]),
    ((ADD_OPTION, 0, 1, 6, 16), [1]),
    ((ADD_OPTION, 1, 1, 6, 5), [0]),
    ((ADD_OPTION, 1, 2, 3, 9), [1]),
    ((ADD_OPTION, 1, 1, 3, 1), [2]),
    ((OPTION_INFO, 1, 1), [2, 3, 9, 1, 2]),
    ((OPTION_NUMBER, 1, 1), [0, 4, 3, 4, 3]),
    ((OPTION_NUMBER, 1, 2), [-33]),
    ((ALLOWED, 1), [2, 0, 1]),
    ((DOMINATED, 1), [1, 1]),
    ((SET_TARGET, 5, 2), [0]),
    ((SET_TARGET, 7, 4), [0]),
    ((SET_WEIGHT, 1, 3), [1]),
    ((OPTION_NUMBER, 1, 0), [0, 1, 1, 3, 1]),
    ((SET_LIMIT, 2, 5), [0]),
    ((ALLOWED, 0), [1, 1]),
    ((SET_LIMIT, 3, 2), [-22]),
    ((REMOVE_OPTION, 1, 2), [2]),
    ((SET_COST, 1, 0, 3), [5]),
    ((SET_WEIGHT, 2, 0), [-2]),
    ((ADD_OPTION, 0, 11, 1, 1), [-22]),
]


class Example(unittest.TestCase):
    def test_each_row(self):
        found = ask([call for call, answer in ROWS])
        for place, (call, answer) in enumerate(ROWS):
            with self.subTest(row=place, call=call):
                self.assertEqual(found[place], answer)

    def test_numbers_below_the_example(self):
        ahead = [call for call, answer in ROWS[:8]]
        asked = [(OPTION_NUMBER, 0, 0), (OPTION_NUMBER, 0, 1), (OPTION_NUMBER, 1, 0), (OPTION_NUMBER, 1, 1)]
        self.assertEqual(ask(ahead + asked)[8:], [
            [0, 1, 1, 1, 1],
            [0, 1, 2, 1, 2],
            [0, 1, 1, 1, 1],
            [0, 4, 3, 4, 3],
        ])


if __name__ == "__main__":
    unittest.main()
