"""Operations 17 and 18: bounds and the best bound."""

import unittest

from asking import (
    BEST_BOUND, BOUND, CREATE, GREATEST, NO_RESULT, OUT_OF_RANGE, ask_after, last, made, part, single,
)

# The values are 10 + 2q, 15 + q and 27 + q / 2 at station 0, 4 + 6q and 20 + 2q at station 1; at each there is an
# option that isn't allowed. The breakpoints are 0, 4, 5, 34/3 and 24.
TWO = [
    (12, 1, [single(2, 10), single(1, 15), part(2, 27), (1, 12, 1)]),
    (12, 2, [(1, 11, 0), single(3, 4), single(1, 20)]),
]
WITHOUT = [
    [(12, 1, [])], [(12, 1, [(1, 12, 5)])], [TWO[0], (12, 1, [])], [(12, 1, []), TWO[0]],
    [TWO[0], (12, 1, [(1, 12, 5), (2, 6, 5), (1, 1, 5)])], [(12, 0, [(1, 12, 0)])],
]


class Bound(unittest.TestCase):
    def check(self, stations, target, multiplier, bound):
        with self.subTest(target=target, multiplier=multiplier):
            self.assertEqual(last(made(stations, target) + [(BOUND, *multiplier)]), [0] + bound)

    def test_by_multiplier(self):
        rows = [((0, 1), [14, 1]), ((1, 3), [91, 6]), ((2, 1), [21, 1]), ((4, 1), [28, 1]), ((5, 1), [55, 2]),
                ((10, 1), [20, 1]), ((24, 1), [-1, 1]), ((30, 1), [-13, 1])]
        for multiplier, bound in rows:
            self.check(TWO, (9, 2), multiplier, bound)

    def test_by_target(self):
        for target, bound in (((0, 1), [46, 1]), ((4, 1), [30, 1]), ((1, 3), [134, 3]), ((1000000, 1), [-3999954, 1])):
            self.check(TWO, target, (4, 1), bound)

    def test_needs_no_lowest_terms(self):
        self.check(TWO, (18, 4), (8, 2), [28, 1])
        self.check(TWO, (9, 2), (333333, 999999), [91, 6])

    def test_edges(self):
        self.check(TWO, (9, 1), (0, 1000000), [14, 1])
        self.check(TWO, (9, 1), (1000000, 1), [-6499953, 1])
        self.check(TWO, (9, 1), (1, 1000000), [13999999, 1000000])
        self.check(TWO, (9, 1), (1000000, 1000000), [13, 1])

    def test_0(self):
        self.check([(12, 1, [single(1, 5)])], (5, 1), (1, 1), [1, 1])
        self.check([(12, 1, [single(1, 5)])], (6, 1), (1, 1), [0, 1])
        self.check([(12, 1, [single(1, 5)])], (7, 1), (1, 1), [-1, 1])

    def test_a_station_takes_its_own_smallest(self):
        stations = [(12, 1, [single(1, 7), single(6, 0)]), (12, 1, [single(6, 1), single(1, 2)]), (12, 0, [single(6, 4)])]
        self.check(stations, (0, 1), (1, 1), [13, 1])
        self.check(stations, (0, 1), (2, 1), [17, 1])
        self.check(stations, (0, 1), (1, 10), [31, 5])

    def test_no_feasible_plan_is_needed(self):
        self.check([(12, 1, [single(2, 5)])], (1, 1), (3, 1), [8, 1])

    def test_weight_0(self):
        self.check([(12, 0, [single(2, 5), single(1, 7)])], (0, 1), (1000000, 1), [5, 1])

    def test_the_limit(self):
        stations = [(12, 1, [single(2, 5), single(1, 9)])]
        asked = [(BOUND, 1, 1)]
        self.assertEqual(ask_after(made(stations, (1, 1), (2, 3)), asked), [[0, 6, 1]])
        self.assertEqual(ask_after(made(stations, (1, 1), (1, 2)), asked), [[0, 9, 1]])
        self.assertEqual(ask_after(made(stations, (1, 1), (1, 3)), asked), [NO_RESULT])

    def test_more_than_64_bits(self):
        stations = [(99991, 997, [(10, 10007, 100000)]), (99989, 991, [(10, 10009, 100000)])]
        answer = last(made(stations, (999983, 999979)) + [(BOUND, 999979, 999983)])
        self.assertGreater(min(answer[1:]), 2 ** 64)

    def test_outside(self):
        passed = [(1000001, 1), (GREATEST, 1), (1, 0), (0, 0), (1, 1000001), (0, GREATEST), (1000001, 1000001),
                  (1000001, 0)]
        for ahead in (made(TWO, (9, 2)), made(WITHOUT[0]), [(CREATE, 1)]):
            for multiplier in passed:
                with self.subTest(ahead=ahead, multiplier=multiplier):
                    self.assertEqual(last(ahead + [(BOUND, *multiplier)]), OUT_OF_RANGE)

    def test_a_station_without_allowed_options(self):
        for stations in WITHOUT:
            with self.subTest(stations=stations):
                asked = [(BOUND, 0, 1), (BOUND, 7, 3)]
                self.assertEqual(ask_after(made(stations, (1000000, 1)), asked), [NO_RESULT] * 2)


class BestBound(unittest.TestCase):
    def check(self, stations, target, multiplier, bound):
        with self.subTest(target=target):
            self.assertEqual(last(made(stations, target) + [(BEST_BOUND,)]), [0] + multiplier + bound)

    def test_by_target(self):
        rows = [((1000000, 1), [0, 1], [14, 1]), ((9, 1), [0, 1], [14, 1]), ((15, 2), [4, 1], [16, 1]),
                ((9, 2), [4, 1], [28, 1]), ((7, 2), [5, 1], [65, 2]), ((5, 2), [24, 1], [47, 1])]
        for target, multiplier, bound in rows:
            self.check(TWO, target, multiplier, bound)

    def test_the_smallest_of_several_breakpoints(self):
        # At the target 8 the bound is the same from 0 to 4, at 4 from 4 to 5, at 3 from 5 over 34/3 to 24.
        for target, multiplier, bound in (((8, 1), [0, 1], [14, 1]), ((4, 1), [4, 1], [30, 1]), ((3, 1), [5, 1], [35, 1])):
            self.check(TWO, target, multiplier, bound)
            self.check(TWO[::-1], target, multiplier, bound)

    def test_the_smallest_of_several_breakpoints_of_a_station(self):
        options = [single(3, 0), single(2, 5), single(1, 15), part(2, 35)]
        for order in (options, options[::-1], options[2:] + options[:2]):
            self.check([(12, 1, order)], (2, 1), [5, 1], [5, 1])
            self.check([(12, 1, order)], (1, 1), [10, 1], [15, 1])
            self.check([(12, 1, order)], (3, 1), [0, 1], [0, 1])

    def test_no_feasible_plan_is_needed(self):
        self.check(TWO, (0, 1), [24, 1], [107, 1])
        self.check(TWO, (2, 1), [24, 1], [59, 1])

    def test_one_option_has_the_breakpoint_0_alone(self):
        self.check([(12, 1, [single(2, 5)])], (0, 1), [0, 1], [5, 1])
        self.check([(12, 1, [single(2, 5), (1, 12, 3)])], (1, 1), [0, 1], [5, 1])

    def test_no_breakpoint_without_a_trade(self):
        rows = [[single(2, 5), single(2, 5)], [single(2, 5), single(1, 5)], [single(2, 5), single(2, 7)],
                [single(2, 7), single(1, 5)], [single(1, 5), single(2, 7)]]
        for options in rows:
            self.check([(12, 1, options)], (0, 1), [0, 1], [5, 1])

    def test_weight_0(self):
        self.check([(12, 0, [single(2, 5), single(1, 7)])], (0, 1), [0, 1], [5, 1])

    def test_weights_scale_the_breakpoint(self):
        self.check([(12, 4, [single(2, 5), single(1, 7)])], (6, 1), [1, 2], [6, 1])

    def test_breakpoints_do_not_cross_stations(self):
        self.check([(12, 1, [single(2, 5)]), (12, 1, [single(1, 7)])], (0, 1), [0, 1], [12, 1])

    def test_what_is_not_allowed_makes_no_breakpoint(self):
        stations = [(12, 1, [single(3, 0), single(2, 5), single(1, 15)])]
        self.assertEqual(last(made(stations, (0, 1), (2, 3)) + [(BEST_BOUND,)]), [0, 10, 1, 25, 1])
        self.assertEqual(last(made(stations, (0, 1), (1, 2)) + [(BEST_BOUND,)]), [0, 0, 1, 15, 1])

    def test_cost_0(self):
        self.check([(12, 1, [single(2, 0)])], (1000000, 1), [0, 1], [0, 1])

    def test_a_bound_at_a_great_multiplier(self):
        stations = [(1, 1, [(10, 99999, 0), (10, 100000, 100000)])]
        answer = last(made(stations, (0, 1)) + [(BEST_BOUND,)])
        self.assertEqual(answer[0], 0)
        self.assertGreater(min(answer[1], answer[3]), 2 ** 64)

    def test_a_station_without_allowed_options(self):
        for stations in WITHOUT:
            with self.subTest(stations=stations):
                self.assertEqual(last(made(stations, (1000000, 1)) + [(BEST_BOUND,)]), NO_RESULT)


if __name__ == "__main__":
    unittest.main()
