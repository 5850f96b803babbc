"""Operations 8 to 22 change nothing, whether they answer or refuse."""

import unittest

from asking import (
    ALLOWED, BEST, BEST_BOUND, BEST_FOR, BOUND, COMPARE_PLANS, COUNTS, DOMINATED, EVALUATE, FRONTIER, GREATEST,
    IMPROVEMENT, MISSING, NO_RESULT, OPTION_INFO, OPTION_NUMBER, OUT_OF_RANGE, RESERVE, SET_ARRIVAL, SET_COST,
    SET_WEIGHT, SUMMARY, ask_after, last, made, part, single,
)

# Each station has an option that isn't allowed.
AHEAD = made([
    (12, 1, [single(2, 10), single(1, 15), part(2, 27), (1, 12, 1)]),
    (12, 2, [(1, 11, 0), single(3, 4), single(1, 20)]),
], (13, 2), (3, 4))
STATE = [
    (SUMMARY,), (OPTION_INFO, 0, 0), (OPTION_INFO, 0, 1), (OPTION_INFO, 0, 2), (OPTION_INFO, 0, 3), (OPTION_INFO, 0, 4),
    (OPTION_INFO, 1, 0), (OPTION_INFO, 1, 1), (OPTION_INFO, 1, 2), (OPTION_INFO, 1, 3), (OPTION_INFO, 2, 0),
    (OPTION_NUMBER, 0, 0), (OPTION_NUMBER, 1, 1), (ALLOWED, 0), (ALLOWED, 1), (BEST,), (COUNTS,), (FRONTIER,),
    (SET_ARRIVAL, 0, 1), (SET_ARRIVAL, 1, 1), (SET_WEIGHT, 0, 0), (SET_WEIGHT, 1, 0), (SET_COST, 0, 0, 0),
]
ANSWERED = [
    (OPTION_INFO, 0, 3), (OPTION_NUMBER, 0, 1), (ALLOWED, 0), (DOMINATED, 1), (EVALUATE, [1, 2]), (BEST,),
    (BEST_FOR, 8, 1), (BEST_FOR, 5, 2), (FRONTIER,), (COUNTS,), (BOUND, 7, 2), (BEST_BOUND,), (IMPROVEMENT, [2, 2]),
    (IMPROVEMENT, [0, 1]), (RESERVE, [1, 2]), (COMPARE_PLANS, [0, 1], [2, 2]), (SUMMARY,),
]
REFUSED = [
    ((OPTION_INFO, 0, 4), MISSING), ((OPTION_INFO, 2, 0), MISSING), ((OPTION_NUMBER, 1, 3), MISSING),
    ((OPTION_NUMBER, 1, 0), NO_RESULT), ((ALLOWED, 2), MISSING), ((DOMINATED, GREATEST), MISSING),
    ((EVALUATE, []), OUT_OF_RANGE), ((EVALUATE, [3, 1]), NO_RESULT), ((BEST_FOR, 1, 0), OUT_OF_RANGE),
    ((BEST_FOR, 1, 1), NO_RESULT), ((BOUND, 1, 1000001), OUT_OF_RANGE), ((IMPROVEMENT, [0, 1, 2]), OUT_OF_RANGE),
    ((IMPROVEMENT, [3, 1]), NO_RESULT), ((IMPROVEMENT, [0, 2]), NO_RESULT), ((RESERVE, [4, 1]), OUT_OF_RANGE),
    ((RESERVE, [0, 0]), NO_RESULT), ((COMPARE_PLANS, [0, 1], [0, 3]), OUT_OF_RANGE),
    ((COMPARE_PLANS, [0, 1], [0, 0]), NO_RESULT),
]


class Unchanged(unittest.TestCase):
    def test_what_answers(self):
        kept = ask_after(AHEAD, STATE)
        for call in ANSWERED:
            with self.subTest(call=call):
                found = ask_after(AHEAD, [call] + STATE)
                self.assertGreaterEqual(found[0][0], 0)
                self.assertEqual(found[1:], kept)

    def test_what_refuses(self):
        kept = ask_after(AHEAD, STATE)
        for call, error in REFUSED:
            with self.subTest(call=call):
                self.assertEqual(ask_after(AHEAD, [call] + STATE), [error] + kept)

    def test_what_refuses_without_a_plan(self):
        ahead = made([(12, 1, [single(2, 10)]), (12, 2, [])], (13, 2), (3, 4))
        asked = [(SUMMARY,), (OPTION_INFO, 0, 0), (ALLOWED, 0), (ALLOWED, 1), (COUNTS,), (SET_WEIGHT, 1, 3)]
        kept = ask_after(ahead, asked)
        for call in ((BEST,), (BEST_FOR, 9, 1), (BOUND, 1, 1), (BEST_BOUND,)):
            with self.subTest(call=call):
                self.assertEqual(ask_after(ahead, [call] + asked), [NO_RESULT] + kept)

    def test_each_answers_the_same_in_any_order(self):
        found = [last(AHEAD + [call]) for call in ANSWERED]
        self.assertEqual(ask_after(AHEAD, ANSWERED), found)
        self.assertEqual(ask_after(AHEAD, ANSWERED[::-1]), found[::-1])
        self.assertEqual(ask_after(AHEAD, ANSWERED + ANSWERED), found + found)


if __name__ == "__main__":
    unittest.main()
