"""The operations: each takes the object and the call's arguments, and answers a list."""

from stationplans.bounds import best_bound_of, bound_for
from stationplans.choices import allowed_places, dominated_places, dominates, is_allowed
from stationplans.choices import option_mean, option_utilization, weighted_mean
from stationplans.model import Model, Option
from stationplans.plans import allowed_plan, allowed_plans, best_plan, check_allowed, check_plan, feasible_ones
from stationplans.plans import frontier_plans, improved_plan, is_feasible
from stationplans.ranges import MOST_COST, MOST_OPTIONS, MOST_RATE, MOST_SERVERS, MOST_STATIONS, MOST_WEIGHT
from stationplans.ranges import fraction_within, within
from stationplans.ratios import minus
from stationplans.refusals import NotAllowed, TooManyOptions
from stationplans.reserves import reserve_of


def create(planner, arguments):
    """Makes a new instance in the place of any other."""
    planner.model = Model(within(arguments[0], 1, MOST_STATIONS))
    return [0]


def set_arrival(planner, arguments):
    """Changes the arrival rate of a station."""
    station = planner.instance().station_at(arguments[0])
    arrival = within(arguments[1], 1, MOST_RATE)
    old = station.arrival
    station.arrival = arrival
    return [old]


def set_weight(planner, arguments):
    """Changes the weight of a station."""
    station = planner.instance().station_at(arguments[0])
    weight = within(arguments[1], 0, MOST_WEIGHT)
    old = station.weight
    station.weight = weight
    return [old]


def set_target(planner, arguments):
    """Changes the target."""
    model = planner.instance()
    model.target = fraction_within(arguments[0], arguments[1])
    return [0]


def set_limit(planner, arguments):
    """Changes the limit."""
    model = planner.instance()
    within(arguments[0], 1, arguments[1])
    model.limit = fraction_within(arguments[0], arguments[1])
    return [0]


def add_option(planner, arguments):
    """Adds an option behind the others of a station."""
    station = planner.instance().station_at(arguments[0])
    servers = within(arguments[1], 1, MOST_SERVERS)
    rate = within(arguments[2], 1, MOST_RATE)
    cost = within(arguments[3], 0, MOST_COST)
    place = len(station.options)
    if place >= MOST_OPTIONS:
        raise TooManyOptions()
    station.options.append(Option(servers, rate, cost))
    return [place]


def remove_option(planner, arguments):
    """Removes an option; the later ones move up."""
    station = planner.instance().station_at(arguments[0])
    station.option_at(arguments[1])
    station.options.pop(arguments[1])
    return [len(station.options)]


def set_cost(planner, arguments):
    """Changes the cost of an option."""
    option = planner.instance().station_at(arguments[0]).option_at(arguments[1])
    cost = within(arguments[2], 0, MOST_COST)
    old = option.cost
    option.cost = cost
    return [old]


def option_info(planner, arguments):
    """Answers what an option is, and its utilization."""
    station = planner.instance().station_at(arguments[0])
    option = station.option_at(arguments[1])
    used = option_utilization(station, option)
    return [option.servers, option.rate, option.cost] + list(used)


def option_number(planner, arguments):
    """Answers the number and the weighted number of an option."""
    model = planner.instance()
    station = model.station_at(arguments[0])
    option = station.option_at(arguments[1])
    if not is_allowed(model, station, option):
        raise NotAllowed()
    return [0] + list(option_mean(station, option)) + list(weighted_mean(station, option))


def allowed(planner, arguments):
    """Answers the allowed options of a station."""
    model = planner.instance()
    places = allowed_places(model, model.station_at(arguments[0]))
    return [len(places)] + places


def dominated(planner, arguments):
    """Answers the dominated options of a station."""
    model = planner.instance()
    places = dominated_places(model, model.station_at(arguments[0]))
    return [len(places)] + places


def evaluate(planner, arguments):
    """Answers the cost and the number of a plan, and whether it is feasible."""
    model = planner.instance()
    check_plan(model, arguments[0])
    plan = allowed_plan(model, arguments[0])
    feasible = 1 if is_feasible(plan, model.target) else 0
    return [plan.cost] + list(plan.mean) + [feasible]


def best(planner, arguments):
    """Answers the best plan."""
    model = planner.instance()
    return told(best_plan(model, model.target))


def best_for(planner, arguments):
    """Answers the best plan for another target."""
    model = planner.instance()
    return told(best_plan(model, fraction_within(arguments[0], arguments[1])))


def frontier(planner, arguments):
    """Answers the plans of the frontier."""
    plans = frontier_plans(planner.instance())
    answer = [len(plans)]
    for plan in plans:
        answer.extend(told(plan))
    return answer


def counts(planner, arguments):
    """Answers how many plans are allowed, and how many are feasible."""
    model = planner.instance()
    plans = allowed_plans(model)
    return [len(plans), len(feasible_ones(plans, model.target))]


def bound(planner, arguments):
    """Answers the bound for a multiplier."""
    model = planner.instance()
    found = bound_for(model, fraction_within(arguments[0], arguments[1]))
    return [0] + list(found.least_cost)


def best_bound(planner, arguments):
    """Answers the best bound and its multiplier."""
    found = best_bound_of(planner.instance())
    return [0] + list(found.multiplier) + list(found.least_cost)


def improvement(planner, arguments):
    """Answers the best plan that differs from a plan at one station."""
    model = planner.instance()
    check_plan(model, arguments[0])
    return told(improved_plan(model, arguments[0]))


def reserve(planner, arguments):
    """Answers how many percent of the arrival rates a plan bears."""
    model = planner.instance()
    check_plan(model, arguments[0])
    check_allowed(model, arguments[0])
    percent = reserve_of(model, arguments[0])
    if percent == 0:
        raise NotAllowed()
    return [percent]


def compare_plans(planner, arguments):
    """Answers which of two plans dominates the other, and how they differ."""
    model = planner.instance()
    check_plan(model, arguments[0])
    check_plan(model, arguments[1])
    first = allowed_plan(model, arguments[0])
    second = allowed_plan(model, arguments[1])
    return [which_dominates(first, second), second.cost - first.cost] + list(minus(second.mean, first.mean))


def summary(planner, arguments):
    """Answers how many stations and options there are, the target and the limit."""
    model = planner.instance()
    option_counts = [len(station.options) for station in model.stations]
    return [len(model.stations)] + list(model.target) + list(model.limit) + option_counts


def told(plan):
    """A plan as it is answered: its cost, its number and its options."""
    return [plan.cost] + list(plan.mean) + plan.places


def which_dominates(first, second):
    """1 if the first plan dominates the second one, 2 if the second one does, otherwise 0."""
    if dominates(first, second):
        return 1
    return 2 if dominates(second, first) else 0


# By the number of the operation: how many whole numbers it takes, then how many lists, and what carries it out.
OPERATIONS = {
    0: (1, 0, create),
    1: (2, 0, set_arrival),
    2: (2, 0, set_weight),
    3: (2, 0, set_target),
    4: (2, 0, set_limit),
    5: (4, 0, add_option),
    6: (2, 0, remove_option),
    7: (3, 0, set_cost),
    8: (2, 0, option_info),
    9: (2, 0, option_number),
    10: (1, 0, allowed),
    11: (1, 0, dominated),
    12: (0, 1, evaluate),
    13: (0, 0, best),
    14: (2, 0, best_for),
    15: (0, 0, frontier),
    16: (0, 0, counts),
    17: (2, 0, bound),
    18: (0, 0, best_bound),
    19: (0, 1, improvement),
    20: (0, 1, reserve),
    21: (0, 2, compare_plans),
    22: (0, 0, summary),
}


def read_arguments(operation, reader):
    """The arguments of the operation with this number: its whole numbers, then its lists."""
    numbers = [reader.number() for place in range(OPERATIONS[operation][0])]
    rows = [reader.row() for place in range(OPERATIONS[operation][1])]
    return numbers + rows


def carry_out(operation, planner, arguments):
    """What the operation with this number answers."""
    return OPERATIONS[operation][2](planner, arguments)
