"""Small instances against the words of "Terms", gone through plan by plan, and the requirements 1 to 4."""

import random
import unittest
from fractions import Fraction

from asking import (
    BEST, BEST_BOUND, BEST_FOR, BOUND, COMPARE_PLANS, COUNTS, EVALUATE, FRONTIER, IMPROVEMENT, NO_RESULT,
    NOT_ALLOWED, RESERVE, ask_after, last, made,
)
from terms import Case, dominates

MULTIPLIERS = [(0, 1), (1, 7), (1, 2), (1, 1), (7, 3), (5, 1), (12, 1), (40, 1), (333, 1), (1000000, 1)]


def pair(fraction):
    """A fraction as it is answered."""
    return [Fraction(fraction).numerator, Fraction(fraction).denominator]


def told(valued):
    """A plan with its cost and number as it is answered, or that there is none."""
    return NO_RESULT if valued is None else [valued[0]] + pair(valued[1]) + valued[2]


def told_bound(multiplier_and_bound):
    """A best bound as it is answered, or that there is none."""
    if multiplier_and_bound is None:
        return NO_RESULT
    return [0] + pair(multiplier_and_bound[0]) + pair(multiplier_and_bound[1])


def small_cases():
    """Instances with few costs, numbers and weights, so that ties come often; some options aren't allowed."""
    draw = random.Random(20261119)
    for number in range(150):
        stations = []
        for _ in range(draw.choice([1, 2, 2, 3, 3, 4])):
            options = []
            for _ in range(draw.choice([1, 2, 3, 4, 5])):
                servers, rate = draw.choice([1, 1, 2, 3]), draw.choice([3, 4, 5, 6, 9])
                options.append((servers, rate, servers * rate // 3 + draw.randint(0, 2)))
            stations.append((draw.randint(1, 4), draw.choice([0, 1, 1, 2, 5]), options))
        target = Fraction(draw.randint(0, 24), draw.choice([1, 2, 3]))
        limit = draw.choice([Fraction(1), Fraction(1), Fraction(1), Fraction(3, 4), Fraction(2, 3)])
        yield Case(stations, target, limit)


CASES = list(small_cases())


def calls_of(case):
    """The calls that make the instance."""
    return made(case.stations, pair(case.target), pair(case.limit))


class ByTheTerms(unittest.TestCase):
    def test_best(self):
        for case in CASES:
            with self.subTest(case=case):
                self.assertEqual(last(calls_of(case) + [(BEST,)]), told(case.best()))

    def test_best_for(self):
        for case in CASES:
            with self.subTest(case=case):
                targets = [case.target / 2, case.target + 1, case.target * 2]
                found = ask_after(calls_of(case), [(BEST_FOR, *pair(target)) for target in targets])
                self.assertEqual(found, [told(Case(case.stations, target, case.limit).best()) for target in targets])

    def test_frontier(self):
        for case in CASES:
            with self.subTest(case=case):
                plans = case.frontier()
                expected = [len(plans)] + [number for plan in plans for number in told(plan)]
                self.assertEqual(last(calls_of(case) + [(FRONTIER,)]), expected)

    def test_counts(self):
        for case in CASES:
            with self.subTest(case=case):
                self.assertEqual(last(calls_of(case) + [(COUNTS,)]), case.counts())

    def test_bound(self):
        for case in CASES:
            with self.subTest(case=case):
                found = ask_after(calls_of(case), [(BOUND, *multiplier) for multiplier in MULTIPLIERS])
                bounds = [case.bound(Fraction(*multiplier)) for multiplier in MULTIPLIERS]
                self.assertEqual(found, [NO_RESULT if bound is None else [0] + pair(bound) for bound in bounds])

    def test_best_bound(self):
        for case in CASES:
            with self.subTest(case=case):
                self.assertEqual(last(calls_of(case) + [(BEST_BOUND,)]), told_bound(case.best_bound()))

    def some_plans(self, case):
        """A few plans of the case, from first to last."""
        plans = case.plans()
        return plans[::max(1, len(plans) // 8)][:8]

    def test_evaluate(self):
        for case in CASES:
            with self.subTest(case=case):
                plans = self.some_plans(case)
                expected = [
                    [case.cost(plan)] + pair(case.plan_number(plan)) + [int(case.feasible(plan))]
                    if case.allowed(plan) else NOT_ALLOWED for plan in plans
                ]
                self.assertEqual(ask_after(calls_of(case), [(EVALUATE, plan) for plan in plans]), expected)

    def test_improvement(self):
        for case in CASES:
            with self.subTest(case=case):
                plans = self.some_plans(case)
                expected = [told(case.improvement(plan)) for plan in plans]
                self.assertEqual(ask_after(calls_of(case), [(IMPROVEMENT, plan) for plan in plans]), expected)

    def test_reserve(self):
        for case in CASES[:25]:
            plans = self.some_plans(case)[:3]
            reserves = [case.reserve(plan) for plan in plans]
            with self.subTest(case=case):
                self.assertEqual(ask_after(calls_of(case), [(RESERVE, plan) for plan in plans]),
                                 [NO_RESULT if percent is None else [percent] for percent in reserves])

    def test_compare_plans(self):
        for case in CASES:
            with self.subTest(case=case):
                plans = self.some_plans(case)
                for first, second in zip(plans, plans[::-1]):
                    found = last(calls_of(case) + [(COMPARE_PLANS, first, second)])
                    if not (case.allowed(first) and case.allowed(second)):
                        self.assertEqual(found, NOT_ALLOWED)
                        continue
                    one, other = case.valued(first), case.valued(second)
                    result = 1 if dominates(one, other) else 2 if dominates(other, one) else 0
                    self.assertEqual(found, [result, other[0] - one[0]] + pair(other[1] - one[1]))

    def test_the_cases_have_each_kind_of_answer(self):
        feasible = [case.best() is not None for case in CASES]
        allowed = [case.counts()[0] > 0 for case in CASES]
        long_frontier = [len(case.frontier()) > 5 for case in CASES]
        later = [case.best_bound() is not None and case.best_bound()[0] > 0 for case in CASES]
        for kinds in (feasible, allowed, long_frontier, later):
            self.assertGreater(kinds.count(True), 5)
            self.assertGreater(kinds.count(False), 5)


class Requirements(unittest.TestCase):
    def feasible_plans(self, case):
        return [case.valued(plan) for plan in case.plans() if case.feasible(plan)]

    def test_1_no_feasible_plan_is_better_than_the_best_plan(self):
        for case in CASES:
            with self.subTest(case=case):
                feasible = self.feasible_plans(case)
                answer = last(calls_of(case) + [(BEST,)])
                if not feasible:
                    self.assertEqual(answer, NO_RESULT)
                    continue
                cost, number = answer[0], Fraction(answer[1], answer[2])
                self.assertIn((cost, number, answer[3:]), feasible)
                for other in feasible:
                    self.assertFalse(other[0] < cost or other[0] == cost and other[1] < number)

    def test_2_no_feasible_plan_costs_less_than_a_bound(self):
        for case in CASES:
            feasible = self.feasible_plans(case)
            if not feasible:
                continue
            with self.subTest(case=case):
                cheapest = min(cost for cost, _, _ in feasible)
                for answer in ask_after(calls_of(case), [(BOUND, *multiplier) for multiplier in MULTIPLIERS]):
                    self.assertGreaterEqual(cheapest, Fraction(answer[1], answer[2]))

    def test_3_no_multiplier_leads_to_a_greater_bound_than_the_best_bound(self):
        for case in CASES:
            with self.subTest(case=case):
                if not self.feasible_plans(case):
                    continue
                multipliers = MULTIPLIERS + [(step, 4) for step in range(1, 9)]
                asked = [(BEST_BOUND,)] + [(BOUND, *multiplier) for multiplier in multipliers]
                found = ask_after(calls_of(case), asked)
                best = Fraction(found[0][3], found[0][4])
                for answer in found[1:]:
                    self.assertLessEqual(Fraction(answer[1], answer[2]), best)

    def test_4_the_frontier_stands_for_every_allowed_plan(self):
        for case in CASES:
            with self.subTest(case=case):
                answer = last(calls_of(case) + [(FRONTIER,)])
                size = 3 + len(case.stations)
                rows = [answer[start:start + size] for start in range(1, len(answer), size)]
                frontier = [(row[0], Fraction(row[1], row[2])) for row in rows]
                self.assertEqual(len(frontier), answer[0])
                for plan in case.plans():
                    if case.allowed(plan):
                        one = case.valued(plan)
                        self.assertTrue(any(dominates(other, one) or other == one[:2] for other in frontier))


class FourStationsOfSixOptions(unittest.TestCase):
    """As many plans as there can be, against the words of "Terms"."""

    CASE = Case([
        (7, 3, [(1, 8, 5), (2, 5, 9), (1, 11, 8), (3, 4, 12), (1, 20, 31), (2, 10, 26)]),
        (5, 1, [(1, 6, 0), (1, 7, 4), (2, 4, 4), (4, 2, 7), (1, 13, 15), (1, 5, 0)]),
        (9, 2, [(3, 4, 6), (2, 6, 7), (1, 12, 7), (1, 10, 2), (5, 3, 16), (10, 1, 3)]),
        (3, 5, [(1, 4, 1), (2, 2, 2), (1, 5, 4), (3, 2, 6), (1, 7, 9), (1, 9, 14)]),
    ], Fraction(61, 3))

    def test_best_and_counts(self):
        found = ask_after(calls_of(self.CASE), [(BEST,), (COUNTS,), (BEST_BOUND,), (IMPROVEMENT, [4, 4, 4, 4])])
        self.assertEqual(found, [told(self.CASE.best()), self.CASE.counts(), told_bound(self.CASE.best_bound()),
                                 told(self.CASE.improvement([4, 4, 4, 4]))])
        self.assertEqual(found[1][0], 6 * 5 * 6 * 6)

    def test_frontier(self):
        plans = self.CASE.frontier()
        self.assertGreater(len(plans), 15)
        expected = [len(plans)] + [number for plan in plans for number in told(plan)]
        self.assertEqual(last(calls_of(self.CASE) + [(FRONTIER,)]), expected)


if __name__ == "__main__":
    unittest.main()
