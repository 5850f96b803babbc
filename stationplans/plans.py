"""Allowed plans, their costs and numbers, and the best of them."""

from stationplans.choices import allowed_choices, allowed_places, choice_at, is_allowed
from stationplans.ratios import less, plus, whole
from stationplans.refusals import NotAllowed, OutOfRange


class Plan:
    """An allowed plan: the option of each station, and the cost and the number of all."""

    def __init__(self, places, cost, mean):
        self.places = places
        self.cost = cost
        self.mean = mean


def check_plan(model, places):
    """Refuses a list that isn't a plan."""
    if len(places) != len(model.stations):
        raise OutOfRange()
    if not all([place < len(station.options) for station, place in zip(model.stations, places)]):
        raise OutOfRange()


def is_allowed_plan(model, places):
    """Whether all options of a plan are allowed."""
    return all([is_allowed(model, station, station.options[place]) for station, place in zip(model.stations, places)])


def check_allowed(model, places):
    """Refuses a plan that isn't allowed."""
    if not is_allowed_plan(model, places):
        raise NotAllowed()


def allowed_plan(model, places):
    """The plan with these options, if it is allowed."""
    check_allowed(model, places)
    plan = empty_plan()
    for station, place in zip(model.stations, places):
        plan = longer_plan(plan, choice_at(station, place))
    return plan


def empty_plan():
    """The plan of no station."""
    return Plan([], 0, whole(0))


def longer_plan(plan, choice):
    """The plan with the choice of one more station behind it."""
    return Plan(plan.places + [choice.place], plan.cost + choice.cost, plus(plan.mean, choice.mean))


def longer_plans(plans, choices):
    """Each of the plans with each choice of one more station behind it."""
    longer = []
    for plan in plans:
        longer.extend([longer_plan(plan, choice) for choice in choices])
    return longer


def allowed_plans(model):
    """All allowed plans, in lexicographic order."""
    plans = [empty_plan()]
    for station in model.stations:
        plans = longer_plans(plans, allowed_choices(model, station))
    return plans


def is_feasible(plan, target):
    """Whether an allowed plan is feasible for the target."""
    return not less(target, plan.mean)


def feasible_ones(plans, target):
    """Those of the plans that are feasible for the target."""
    return [plan for plan in plans if is_feasible(plan, target)]


def is_better(one, other):
    """Whether a plan is better than another one."""
    return one.cost < other.cost or (one.cost == other.cost and less(one.mean, other.mean))


def first_best(plans):
    """The first of the plans such that none of them is better, if there are any."""
    if not plans:
        raise NotAllowed()
    found = plans[0]
    for plan in plans:
        if is_better(plan, found):
            found = plan
    return found


def best_plan(model, target):
    """The best plan for the target."""
    return first_best(feasible_ones(allowed_plans(model), target))


def frontier_plans(model):
    """The plans of the frontier, by increasing cost."""
    best_of_cost = {}
    for plan in allowed_plans(model):
        if plan.cost not in best_of_cost or is_better(plan, best_of_cost[plan.cost]):
            best_of_cost[plan.cost] = plan
    kept = []
    for cost in sorted(best_of_cost):
        # A plan that costs more is dominated unless its number is smaller than all so far.
        if not kept or less(best_of_cost[cost].mean, kept[-1].mean):
            kept.append(best_of_cost[cost])
    return kept


def changed_plans(model, places):
    """The allowed plans that differ from an allowed one at one station, by station and then by option."""
    changed = []
    for at, station in enumerate(model.stations):
        others = [place for place in allowed_places(model, station) if place != places[at]]
        changed.extend([allowed_plan(model, places[:at] + [place] + places[at + 1:]) for place in others])
    return changed


def improved_plan(model, places):
    """The best plan that differs from an allowed one at one station, if there is any use in it."""
    plan = allowed_plan(model, places)
    found = first_best(feasible_ones(changed_plans(model, places), model.target))
    if is_feasible(plan, model.target) and not is_better(found, plan):
        raise NotAllowed()
    return found
