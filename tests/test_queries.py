"""Operations 8 to 11, and that a greater rate never leads to a greater number."""

import math
import unittest
from fractions import Fraction

from asking import (
    ADD_OPTION, ALLOWED, CREATE, DOMINATED, GREATEST, MISSING, NOT_ALLOWED, OPTION_INFO, OPTION_NUMBER,
    REMOVE_OPTION, SET_ARRIVAL, SET_COST, SET_LIMIT, SET_WEIGHT, ask_after, last,
)


def station(arrival, options, weight=1):
    """The calls that make one station with these options."""
    made = [(CREATE, 1), (SET_ARRIVAL, 0, arrival), (SET_WEIGHT, 0, weight)]
    return made + [(ADD_OPTION, 0, servers, rate, cost) for servers, rate, cost in options]


def number_by_states(arrival, servers, rate):
    """The mean number from the chance of each count of customers, not from the document's B."""
    offered = Fraction(arrival, rate)
    used = offered / servers
    below = [offered ** count / math.factorial(count) for count in range(servers)]
    full = offered ** servers / math.factorial(servers)
    queued = full * used / (1 - used) ** 2
    return offered + queued / (sum(below) + full / (1 - used))


class OptionInfo(unittest.TestCase):
    def test_utilization_in_lowest_terms(self):
        rows = [(6, 2, 9, 1, 3), (9, 1, 6, 3, 2), (6, 3, 2, 1, 1), (100000, 10, 100000, 1, 10), (1, 10, 1, 1, 10),
                (100000, 1, 1, 100000, 1), (99999, 1, 100000, 99999, 100000), (7, 3, 5, 7, 15)]
        for arrival, servers, rate, num, den in rows:
            with self.subTest(arrival=arrival, servers=servers, rate=rate):
                asked = station(arrival, [(servers, rate, 8)]) + [(OPTION_INFO, 0, 0)]
                self.assertEqual(last(asked), [servers, rate, 8, num, den])

    def test_the_limit_has_no_say(self):
        asked = station(3, [(1, 4, 8)]) + [(SET_LIMIT, 1, 2), (OPTION_INFO, 0, 0)]
        self.assertEqual(last(asked), [1, 4, 8, 3, 4])

    def test_no_station_or_option(self):
        ahead = station(1, [(1, 2, 3), (1, 3, 4)])
        asked = [(OPTION_INFO, 0, 1), (OPTION_INFO, 0, 2), (OPTION_INFO, 0, GREATEST), (OPTION_INFO, 1, 0),
                 (OPTION_INFO, GREATEST, 0), (OPTION_INFO, 1, 2)]
        self.assertEqual(ask_after(ahead, asked), [[1, 3, 4, 1, 3]] + [MISSING] * 5)


class OptionNumber(unittest.TestCase):
    def check_number(self, arrival, servers, rate, weight):
        number = number_by_states(arrival, servers, rate)
        weighted = weight * number
        asked = station(arrival, [(servers, rate, 0)], weight) + [(OPTION_NUMBER, 0, 0)]
        expected = [0, number.numerator, number.denominator, weighted.numerator, weighted.denominator]
        with self.subTest(arrival=arrival, servers=servers, rate=rate, weight=weight):
            self.assertEqual(last(asked), expected)

    def test_one_server(self):
        asked = station(3, [(1, 4, 0), (1, 5, 0), (1, 9, 0)]) + [(OPTION_NUMBER, 0, place) for place in range(3)]
        self.assertEqual(ask_after(asked[:-3], asked[-3:]), [[0, 3, 1, 3, 1], [0, 3, 2, 3, 2], [0, 1, 2, 1, 2]])

    def test_each_count_of_servers(self):
        for servers in range(1, 11):
            for arrival, rate in ((1, 7), (5, 7), (servers * 7 - 1, 7), (servers * 3 - 2, 3)):
                self.check_number(arrival, servers, rate, 6)

    def test_edges_of_the_ranges(self):
        for arrival, servers, rate in ((1, 1, 2), (1, 1, 100000), (1, 10, 1), (1, 10, 100000), (100000, 10, 100000),
                                       (99999, 1, 100000), (99999, 10, 10000), (100000, 10, 10001)):
            self.check_number(arrival, servers, rate, 1000)

    def test_more_than_64_bits(self):
        self.check_number(99991, 10, 10007, 997)
        asked = station(99991, [(10, 10007, 0)], 997) + [(OPTION_NUMBER, 0, 0)]
        self.assertGreater(min(last(asked)[1:]), 2 ** 64)

    def test_weighted_number_in_lowest_terms(self):
        for weight in (1, 2, 3, 6, 7, 1000):
            self.check_number(3, 2, 3, weight)

    def test_weight_0(self):
        asked = station(3, [(2, 3, 0)], 0) + [(OPTION_NUMBER, 0, 0)]
        self.assertEqual(last(asked), [0, 4, 3, 0, 1])

    def test_not_allowed_at_1_and_above(self):
        ahead = station(6, [(1, 6, 0), (2, 3, 0), (1, 5, 0), (1, 1, 0), (1, 7, 0)])
        asked = [(OPTION_NUMBER, 0, place) for place in range(5)]
        self.assertEqual(ask_after(ahead, asked), [NOT_ALLOWED] * 4 + [[0, 6, 1, 6, 1]])

    def test_not_allowed_over_the_limit(self):
        ahead = station(1, [(1, 2, 0), (1, 3, 0)]) + [(SET_LIMIT, 1, 3)]
        asked = [(OPTION_NUMBER, 0, 0), (OPTION_NUMBER, 0, 1), (SET_LIMIT, 1, 2), (OPTION_NUMBER, 0, 0)]
        self.assertEqual(ask_after(ahead, asked), [NOT_ALLOWED, [0, 1, 2, 1, 2], [0], [0, 1, 1, 1, 1]])

    def test_not_allowed_with_weight_0_either(self):
        self.assertEqual(last(station(2, [(1, 2, 0)], 0) + [(OPTION_NUMBER, 0, 0)]), NOT_ALLOWED)

    def test_no_station_or_option_comes_first(self):
        ahead = station(2, [(1, 2, 3)])
        asked = [(OPTION_NUMBER, 0, 0), (OPTION_NUMBER, 0, 1), (OPTION_NUMBER, 1, 0), (OPTION_NUMBER, 0, GREATEST),
                 (OPTION_NUMBER, GREATEST, GREATEST)]
        self.assertEqual(ask_after(ahead, asked), [NOT_ALLOWED] + [MISSING] * 4)


class Speed(unittest.TestCase):
    def numbers(self, arrival, servers, rates):
        ahead = station(arrival, [(servers, rate, 0) for rate in rates])
        asked = [(OPTION_NUMBER, 0, place) for place in range(len(rates))]
        return [Fraction(answer[1], answer[2]) for answer in ask_after(ahead, asked)]

    def test_a_greater_rate_never_leads_to_a_greater_number(self):
        for servers in range(1, 11):
            for arrival in (1, 30, 90000):
                least = arrival // servers + 1
                rates = [least, least + 1, least + 2, least + 5, 95000, 100000]
                with self.subTest(servers=servers, arrival=arrival):
                    numbers = self.numbers(arrival, servers, rates)
                    self.assertEqual(numbers, sorted(numbers, reverse=True))
                    self.assertGreater(numbers[0], numbers[-1])


class Allowed(unittest.TestCase):
    def test_no_options(self):
        self.assertEqual(last(station(1, []) + [(ALLOWED, 0)]), [0])

    def test_none_some_and_all(self):
        options = [(1, 4, 9), (2, 2, 8), (1, 5, 7), (1, 3, 6), (2, 3, 5), (10, 1, 4)]
        rows = [(1, [6, 0, 1, 2, 3, 4, 5]), (4, [3, 2, 4, 5]), (3, [5, 0, 1, 2, 4, 5]), (10, [0])]
        for arrival, expected in rows:
            with self.subTest(arrival=arrival):
                self.assertEqual(last(station(arrival, options) + [(ALLOWED, 0)]), expected)

    def test_the_limit(self):
        ahead = station(2, [(1, 4, 0), (1, 5, 0), (1, 3, 0), (3, 1, 0), (2, 2, 0)])
        asked = [(ALLOWED, 0), (SET_LIMIT, 2, 3), (ALLOWED, 0), (SET_LIMIT, 13, 20), (ALLOWED, 0), (SET_LIMIT, 1, 2),
                 (ALLOWED, 0), (SET_LIMIT, 2, 5), (ALLOWED, 0), (SET_LIMIT, 1, 3), (ALLOWED, 0)]
        self.assertEqual(ask_after(ahead, asked), [
            [5, 0, 1, 2, 3, 4], [0], [5, 0, 1, 2, 3, 4], [0], [3, 0, 1, 4], [0], [3, 0, 1, 4], [0], [1, 1], [0], [0],
        ])

    def test_after_an_option_is_removed(self):
        ahead = station(2, [(1, 3, 0), (1, 1, 0), (1, 4, 0)]) + [(REMOVE_OPTION, 0, 0)]
        self.assertEqual(ask_after(ahead, [(ALLOWED, 0)]), [[1, 1]])

    def test_cost_and_weight_have_no_say(self):
        self.assertEqual(last(station(2, [(1, 3, 100000), (1, 3, 0)], 0) + [(ALLOWED, 0)]), [2, 0, 1])

    def test_no_station(self):
        asked = [(ALLOWED, 0), (ALLOWED, 1), (ALLOWED, GREATEST)]
        self.assertEqual(ask_after(station(1, []), asked), [[0], MISSING, MISSING])


class Dominated(unittest.TestCase):
    def check(self, options, expected, arrival=2, weight=1, ahead=()):
        asked = station(arrival, options, weight) + list(ahead) + [(DOMINATED, 0)]
        self.assertEqual(last(asked), expected)

    def test_no_options(self):
        self.check([], [0])

    def test_one_option(self):
        self.check([(1, 3, 5)], [0])

    def test_cheaper_and_smaller_dominates(self):
        self.check([(1, 3, 9), (1, 4, 5)], [1, 0])
        self.check([(1, 4, 5), (1, 3, 9)], [1, 1])

    def test_cheaper_but_greater_does_not(self):
        self.check([(1, 3, 5), (1, 4, 9)], [0])
        self.check([(1, 4, 9), (1, 3, 5)], [0])

    def test_same_cost_and_smaller_dominates(self):
        self.check([(1, 3, 5), (1, 4, 5)], [1, 0])

    def test_same_number_and_cheaper_dominates(self):
        self.check([(1, 3, 6), (1, 3, 5)], [1, 0])

    def test_same_cost_and_number_does_not(self):
        self.check([(1, 3, 5), (1, 3, 5), (1, 3, 5)], [0])

    def test_same_number_of_unlike_options(self):
        # With arrival 12, two servers of rate 12 have the number 4/3, and so has one server of rate 21.
        self.check([(2, 12, 5), (1, 21, 5)], [0], arrival=12)
        self.check([(2, 12, 6), (1, 21, 5)], [1, 0], arrival=12)
        self.check([(2, 12, 5), (1, 21, 6)], [1, 1], arrival=12)

    def test_in_increasing_order(self):
        self.check([(1, 3, 9), (1, 9, 1), (1, 4, 8), (1, 5, 2), (1, 3, 1), (1, 10, 3)], [4, 0, 2, 3, 4])

    def test_what_is_not_allowed_dominates_nothing(self):
        self.check([(1, 3, 9), (1, 2, 0), (1, 1, 1)], [0])

    def test_what_is_not_allowed_is_not_dominated(self):
        self.check([(1, 2, 9), (1, 3, 5), (1, 1, 100)], [0])

    def test_what_is_over_the_limit(self):
        options = [(1, 3, 9), (1, 4, 5), (1, 5, 7)]
        self.check(options, [1, 0])
        self.check(options, [0], ahead=[(SET_LIMIT, 1, 2)])
        self.check([(1, 4, 9), (1, 5, 7), (1, 3, 1)], [1, 0], ahead=[(SET_LIMIT, 1, 2)])

    def test_weight_0_leaves_the_cost(self):
        options = [(1, 3, 5), (1, 4, 9), (1, 5, 5), (1, 6, 7)]
        self.check(options, [2, 0, 1])
        self.check(options, [2, 1, 3], weight=0)

    def test_weight_0_still_needs_allowed(self):
        self.check([(1, 3, 5), (1, 2, 1), (1, 4, 6), (1, 1, 9)], [1, 2], weight=0)

    def test_after_a_change_of_cost(self):
        options = [(1, 3, 5), (1, 4, 9)]
        self.check(options, [1, 0], ahead=[(SET_COST, 0, 1, 4)])
        self.check(options, [1, 0], ahead=[(SET_COST, 0, 1, 5)])
        self.check(options, [0], ahead=[(SET_COST, 0, 1, 6)])

    def test_numbers_that_are_close(self):
        # Beyond the last place of any inexact number.
        self.check([(10, 99999, 5), (10, 100000, 5)], [1, 0], arrival=1)
        self.check([(10, 99999, 4), (10, 100000, 5)], [0], arrival=1)

    def test_other_stations_have_no_say(self):
        asked = [(CREATE, 2), (ADD_OPTION, 0, 1, 3, 9), (ADD_OPTION, 1, 1, 4, 5), (DOMINATED, 0)]
        self.assertEqual(last(asked), [0])

    def test_no_station(self):
        asked = [(DOMINATED, 0), (DOMINATED, 1), (DOMINATED, GREATEST)]
        self.assertEqual(ask_after(station(1, []), asked), [[0], MISSING, MISSING])


class QueriesChangeNothing(unittest.TestCase):
    def test_asked_again(self):
        ahead = station(2, [(1, 3, 9), (1, 4, 5), (1, 2, 1)], 3) + [(SET_LIMIT, 3, 4)]
        asked = [(OPTION_INFO, 0, 0), (OPTION_NUMBER, 0, 0), (OPTION_NUMBER, 0, 2), (ALLOWED, 0), (DOMINATED, 0),
                 (OPTION_INFO, 0, 3), (OPTION_NUMBER, 1, 0), (ALLOWED, 1), (DOMINATED, 1)]
        found = ask_after(ahead, asked)
        self.assertEqual(ask_after(ahead, asked + asked), found + found)
        backward = ask_after(ahead, asked[::-1] + asked)
        self.assertEqual(backward, found[::-1] + found)


if __name__ == "__main__":
    unittest.main()
