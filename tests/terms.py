"""What the document's "Terms" say, word by word, by going through all plans; slow and apart from the program."""

from fractions import Fraction
from functools import cache
from itertools import product


class Case:
    """An instance, which stays as it is: stations as (arrival, weight, options), options as (servers, rate, cost)."""

    def __init__(self, stations, target=Fraction(0), limit=Fraction(1)):
        self.stations = stations
        self.target = target
        self.limit = limit

    def __repr__(self):
        return f"Case({self.stations}, {self.target!r}, {self.limit!r})"

    @cache
    def used(self, station, option):
        arrival, _, options = self.stations[station]
        servers, rate, _ = options[option]
        return Fraction(arrival) / (servers * rate)

    @cache
    def option_allowed(self, station, option):
        return self.used(station, option) < 1 and self.used(station, option) <= self.limit

    def number(self, station, option):
        arrival, _, options = self.stations[station]
        servers, rate, _ = options[option]
        load = Fraction(arrival) / rate
        lost = Fraction(1)
        for k in range(servers):
            lost = load * lost / (k + 1 + load * lost)
        used = self.used(station, option)
        waits = lost / (1 - used * (1 - lost))
        return load + waits * used / (1 - used)

    @cache
    def weighted(self, station, option):
        return self.stations[station][1] * self.number(station, option)

    def option_cost(self, station, option):
        return self.stations[station][2][option][2]

    def allowed_options(self, station):
        return [option for option in range(len(self.stations[station][2])) if self.option_allowed(station, option)]

    def is_plan(self, plan):
        return len(plan) == len(self.stations) and all(
            option < len(station[2]) for option, station in zip(plan, self.stations))

    def allowed(self, plan):
        return all(self.option_allowed(station, option) for station, option in enumerate(plan))

    def cost(self, plan):
        return sum(self.option_cost(station, option) for station, option in enumerate(plan))

    def plan_number(self, plan):
        return sum((self.weighted(station, option) for station, option in enumerate(plan)), Fraction(0))

    def feasible(self, plan):
        return self.allowed(plan) and self.plan_number(plan) <= self.target

    def plans(self):
        """All plans, in lexicographic order."""
        return [list(plan) for plan in product(*(range(len(station[2])) for station in self.stations))]

    def valued(self, plan):
        """The plan with its cost and number ahead, so that a smaller one is better and then earlier."""
        return (self.cost(plan), self.plan_number(plan), plan)

    def best(self):
        return min((self.valued(plan) for plan in self.plans() if self.feasible(plan)), default=None)

    def frontier(self):
        every = [self.valued(plan) for plan in self.plans() if self.allowed(plan)]
        kept = [one for one in every if not any(dominates(other, one) for other in every)]
        return sorted(one for one in kept if not any(other[:2] == one[:2] and other[2] < one[2] for other in kept))

    def counts(self):
        plans = self.plans()
        return [sum(map(self.allowed, plans)), sum(map(self.feasible, plans))]

    def bound(self, multiplier):
        """None if a station has no allowed option."""
        least = []
        for station in range(len(self.stations)):
            if not self.allowed_options(station):
                return None
            least.append(min(self.option_cost(station, option) + multiplier * self.weighted(station, option)
                             for option in self.allowed_options(station)))
        return sum(least) - multiplier * self.target

    def breakpoints(self):
        found = {Fraction(0)}
        for station in range(len(self.stations)):
            for o, p in product(self.allowed_options(station), repeat=2):
                cost = self.option_cost(station, p) - self.option_cost(station, o)
                number = self.weighted(station, o) - self.weighted(station, p)
                if cost > 0 and number > 0:
                    found.add(cost / number)
        return sorted(found)

    def best_bound(self):
        """The multiplier and the bound; None if a station has no allowed option."""
        if self.bound(Fraction(0)) is None:
            return None
        best = max(self.bound(multiplier) for multiplier in self.breakpoints())
        return (min(q for q in self.breakpoints() if self.bound(q) == best), best)

    def improvement(self, plan):
        """None if the plan isn't allowed, or no improvement is to be answered."""
        if not self.allowed(plan):
            return None
        others = []
        for station in range(len(self.stations)):
            for option in range(len(self.stations[station][2])):
                other = plan[:station] + [option] + plan[station + 1:]
                if other != plan and self.feasible(other):
                    others.append(self.valued(other))
        found = [one for one in others if not any(other[:2] < one[:2] for other in others)]
        if not found or self.feasible(plan) and not found[0][:2] < self.valued(plan)[:2]:
            return None
        return found[0]

    def grown(self, percent):
        stations = [(Fraction(arrival * percent, 100), weight, options) for arrival, weight, options in self.stations]
        return Case(stations, self.target, self.limit)

    def reserve(self, plan):
        """None if the plan isn't allowed, or there is no reserve."""
        if not self.allowed(plan):
            return None
        return max((percent for percent in range(1, 301) if self.grown(percent).feasible(plan)), default=None)


def dominates(one, other):
    """Whether a cost and a number dominate others."""
    return one[0] <= other[0] and one[1] <= other[1] and one[:2] != other[:2]
