"""How calls are written, how answers are written, and that nothing is kept."""

import unittest

from asking import (
    ADD_OPTION, ALLOWED, BEST, BEST_BOUND, BEST_FOR, BOUND, COMPARE_PLANS, COUNTS, CREATE, DOMINATED, EVALUATE,
    FRONTIER, GREATEST, IMPROVEMENT, OPTION_INFO, OPTION_NUMBER, REMOVE_OPTION, RESERVE, SET_ARRIVAL, SET_COST,
    SET_LIMIT, SET_TARGET, SET_WEIGHT, SUMMARY, written,
)
from stationplans.capacity import answers


class AnswersAsWritten(unittest.TestCase):
    def test_each_answer_has_its_length_ahead(self):
        calls = [
            0, 2,
            1, 0, 2,
            2, 0, 3,
            3, 5, 2,
            4, 1, 1,
            5, 0, 1, 4, 10,
            5, 0, 1, 4, 11,
            8, 0, 0,
            9, 0, 0,
            10, 0,
            11, 0,
            7, 0, 0, 12,
            6, 0, 0,
        ]
        self.assertEqual(answers(calls), [
            1, 0,
            1, 1,
            1, 1,
            1, 0,
            1, 0,
            1, 0,
            1, 1,
            5, 1, 4, 10, 1, 2,
            5, 0, 1, 1, 3, 1,
            3, 2, 0, 1,
            2, 1, 1,
            1, 10,
            1, 1,
        ])

    def test_calls_about_plans(self):
        calls = [
            0, 2,
            5, 0, 1, 2, 10,
            5, 0, 1, 3, 14,
            5, 1, 1, 2, 5,
            3, 2, 1,
            12, 2, 1, 0,
            13,
            14, 3, 2,
            15,
            16,
            17, 4, 2,
            18,
            19, 2, 1, 0,
            20, 2, 1, 0,
            21, 2, 0, 0, 2, 1, 0,
            22,
        ]
        self.assertEqual(answers(calls), [
            1, 0,
            1, 0,
            1, 1,
            1, 0,
            1, 0,
            4, 19, 3, 2, 1,
            5, 15, 2, 1, 0, 0,
            5, 19, 3, 2, 1, 0,
            11, 2, 15, 2, 1, 0, 0, 19, 3, 2, 1, 0,
            2, 2, 2,
            3, 0, 15, 1,
            5, 0, 0, 1, 15, 1,
            5, 15, 2, 1, 0, 0,
            1, 115,
            4, 0, 4, -1, 2,
            7, 2, 2, 1, 1, 1, 2, 1,
        ])

    def test_an_empty_list_of_options_is_its_count_alone(self):
        self.assertEqual(answers([0, 1, 10, 0, 11, 0]), [1, 0, 1, 0, 1, 0])

    def test_an_empty_frontier_is_its_count_alone(self):
        self.assertEqual(answers([0, 1, 15, 15]), [1, 0, 1, 0, 1, 0])

    def test_lists_of_each_length(self):
        for operation in (EVALUATE, IMPROVEMENT, RESERVE):
            for length in range(7):
                with self.subTest(operation=operation, length=length):
                    calls = [0, 1, operation, length] + [16] * length + [16]
                    self.assertEqual(answers(calls), [1, 0, 1, -22, 2, 0, 0])

    def test_two_lists_of_each_length(self):
        for first in range(7):
            for second in range(7):
                with self.subTest(first=first, second=second):
                    calls = [0, 4, COMPARE_PLANS, first] + [16] * first + [second] + [16] * second + [16]
                    self.assertEqual(answers(calls), [1, 0, 1, -22, 2, 0, 0])

    def test_an_error_is_its_code_alone(self):
        calls = [8, 0, 0, 0, 0, 0, 1, 1, 1, 1, 1, 0, 0, 5, 0, 1, 1, 1, 9, 0, 0]
        self.assertEqual(answers(calls), [1, -11, 1, -22, 1, 0, 1, -2, 1, -22, 1, 0, 1, -33])

    def test_a_call_that_fails_takes_all_its_numbers(self):
        calls = written([
            (SET_ARRIVAL, 9, 9), (SET_WEIGHT, 9, 9), (SET_TARGET, 9, 9), (SET_LIMIT, 9, 9),
            (ADD_OPTION, 9, 9, 9, 9), (REMOVE_OPTION, 9, 9), (SET_COST, 9, 9, 9), (OPTION_INFO, 9, 9),
            (OPTION_NUMBER, 9, 9), (ALLOWED, 9), (DOMINATED, 9), (EVALUATE, [9, 9, 9]), (BEST,), (BEST_FOR, 9, 9),
            (FRONTIER,), (COUNTS,), (BOUND, 9, 9), (BEST_BOUND,), (IMPROVEMENT, [9]), (RESERVE, [9] * 6),
            (COMPARE_PLANS, [9, 9], []), (SUMMARY,), (CREATE, 9), (CREATE, 1),
        ])
        self.assertEqual(answers(calls), [1, -11] * 22 + [1, -22, 1, 0])

    def test_whole_numbers_in_a_list(self):
        given = answers(written([
            (CREATE, 1), (SET_WEIGHT, 0, 0), (ADD_OPTION, 0, 2, 3, 4), (OPTION_INFO, 0, 0),
            (OPTION_NUMBER, 0, 0), (ALLOWED, 0), (DOMINATED, 0), (ALLOWED, 1), (SET_TARGET, 4, 6), (EVALUATE, [0]),
            (BEST,), (BEST_FOR, 1, 2), (FRONTIER,), (COUNTS,), (BOUND, 1, 2), (BEST_BOUND,), (ADD_OPTION, 0, 2, 3, 3),
            (IMPROVEMENT, [0]), (RESERVE, [0]), (COMPARE_PLANS, [0], [1]), (SUMMARY,), (SET_LIMIT, 1, 9),
        ]))
        self.assertIs(type(given), list)
        self.assertEqual({type(number) for number in given}, {int})

    def test_one_call(self):
        self.assertEqual(answers([0, 4]), [1, 0])

    def test_fifty_calls(self):
        calls = written([(CREATE, 1)] + [(SET_ARRIVAL, 0, place + 2) for place in range(49)])
        self.assertEqual(answers(calls), [1, 0] + [number for place in range(49) for number in (1, place + 1)])


class NothingIsKept(unittest.TestCase):
    def test_what_is_handed_in_stays(self):
        calls = written([
            (ALLOWED, 0), (CREATE, 2), (ADD_OPTION, 0, 1, 4, 10), (SET_COST, 0, 0, 3),
            (SET_ARRIVAL, 0, 3), (OPTION_NUMBER, 0, 0), (ADD_OPTION, 1, 1, 3, 2), (SET_TARGET, 9, 2),
            (EVALUATE, [0, 0]), (EVALUATE, []), (BEST,), (BEST_FOR, 4, 2), (FRONTIER,), (BEST_BOUND,), (BOUND, 3, 6),
            (ADD_OPTION, 0, 1, 6, 1), (IMPROVEMENT, [0, 0]), (IMPROVEMENT, [0, 9]), (RESERVE, [0, 0]),
            (COMPARE_PLANS, [0, 0], [1, 0]), (COMPARE_PLANS, [0, 0, 0], [1]), (SUMMARY,),
            (REMOVE_OPTION, 0, 0), (CREATE, GREATEST),
        ])
        before = list(calls)
        answers(calls)
        self.assertEqual(calls, before)

    def test_no_instance_from_the_call_before(self):
        answers([0, 1, 5, 0, 1, 4, 10])
        self.assertEqual(answers([10, 0]), [1, -11])

    def test_no_settings_from_the_call_before(self):
        asked = written([
            (CREATE, 1), (ADD_OPTION, 0, 1, 2, 10), (ALLOWED, 0), (OPTION_NUMBER, 0, 0),
            (SET_ARRIVAL, 0, 7), (SET_WEIGHT, 0, 8), (SET_LIMIT, 1, 9), (SUMMARY,), (SET_TARGET, 5, 1), (ALLOWED, 0),
        ])
        first = answers(asked)
        self.assertEqual(first, [
            1, 0, 1, 0, 2, 1, 0, 5, 0, 1, 1, 1, 1, 1, 1, 1, 1, 1, 0, 6, 1, 0, 1, 1, 9, 1, 1, 0, 1, 0,
        ])
        self.assertEqual(answers(asked), first)

    def test_what_is_given_back_is_the_callers(self):
        first = answers([0, 1, 10, 0])
        first.append(99)
        self.assertEqual(answers([0, 1, 10, 0]), [1, 0, 1, 0])


if __name__ == "__main__":
    unittest.main()
