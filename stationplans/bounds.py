"""Lower bounds of the cost of feasible plans, by multipliers."""

from stationplans.choices import allowed_choices
from stationplans.ratios import less, minus, over, plus, times, whole
from stationplans.refusals import NotAllowed


class Bound:
    """A bound and the multiplier that leads to it."""

    def __init__(self, multiplier, least_cost):
        self.multiplier = multiplier
        self.least_cost = least_cost


def choices_by_station(model):
    """The allowed options of each station, if every station has one."""
    by_station = [allowed_choices(model, station) for station in model.stations]
    if not all(by_station):
        raise NotAllowed()
    return by_station


def bound_for(model, multiplier):
    """The bound for a multiplier."""
    return bound_of(choices_by_station(model), model.target, multiplier)


def bound_of(by_station, target, multiplier):
    """The bound for a multiplier, from the allowed options of each station."""
    least_cost = minus(whole(0), times(multiplier, target))
    for choices in by_station:
        least_cost = plus(least_cost, least_value(choices, multiplier))
    return Bound(multiplier, least_cost)


def least_value(choices, multiplier):
    """The smallest of the choices' costs with the multiplier times the weighted number."""
    least = value_of(choices[0], multiplier)
    for choice in choices:
        value = value_of(choice, multiplier)
        if less(value, least):
            least = value
    return least


def value_of(choice, multiplier):
    """The cost of a choice and the multiplier times its weighted number."""
    return plus(whole(choice.cost), times(multiplier, choice.mean))


def breakpoints(choices):
    """The breakpoints that the choices of one station lead to, but for 0."""
    found = []
    for cheap in choices:
        dear = [choice for choice in choices if trades(cheap, choice)]
        found.extend([exchange_rate(cheap, choice) for choice in dear])
    return found


def trades(cheap, dear):
    """Whether the first choice costs less and has a greater weighted number."""
    return cheap.cost < dear.cost and less(dear.mean, cheap.mean)


def exchange_rate(cheap, dear):
    """How much more a choice costs for each 1 by which its weighted number is smaller."""
    return over(whole(dear.cost - cheap.cost), minus(cheap.mean, dear.mean))


def best_bound_of(model):
    """The best bound, at the smallest breakpoint that leads to it."""
    by_station = choices_by_station(model)
    found = bound_of(by_station, model.target, whole(0))
    for choices in by_station:
        for multiplier in breakpoints(choices):
            other = bound_of(by_station, model.target, multiplier)
            if is_preferred(other, found):
                found = other
    return found


def is_preferred(one, other):
    """Whether a bound is greater than another one, or the same with a smaller multiplier."""
    if one.least_cost == other.least_cost:
        return less(one.multiplier, other.multiplier)
    return less(other.least_cost, one.least_cost)
