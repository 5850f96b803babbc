"""The operations: each takes the object and the call's whole numbers, and answers a list."""

from stationplans.choices import allowed_places, dominated_places, is_allowed
from stationplans.choices import option_mean, option_utilization, weighted_mean
from stationplans.model import Model, Option
from stationplans.ratios import ratio
from stationplans.refusals import NotAllowed, OutOfRange, TooManyOptions

MOST_STATIONS = 4
MOST_OPTIONS = 6
MOST_SERVERS = 10
MOST_RATE = 100000
MOST_WEIGHT = 1000
MOST_COST = 100000
MOST_PART = 1000000


def within(number, least, most):
    """The number itself, if it is from least to most."""
    if number < least or number > most:
        raise OutOfRange()
    return number


def create(planner, numbers):
    """Makes a new instance in the place of any other."""
    planner.model = Model(within(numbers[0], 1, MOST_STATIONS))
    return [0]


def set_arrival(planner, numbers):
    """Changes the arrival rate of a station."""
    station = planner.instance().station_at(numbers[0])
    arrival = within(numbers[1], 1, MOST_RATE)
    old = station.arrival
    station.arrival = arrival
    return [old]


def set_weight(planner, numbers):
    """Changes the weight of a station."""
    station = planner.instance().station_at(numbers[0])
    weight = within(numbers[1], 0, MOST_WEIGHT)
    old = station.weight
    station.weight = weight
    return [old]


def set_target(planner, numbers):
    """Changes the target."""
    model = planner.instance()
    num = within(numbers[0], 0, MOST_PART)
    den = within(numbers[1], 1, MOST_PART)
    model.target = ratio(num, den)
    return [0]


def set_limit(planner, numbers):
    """Changes the limit."""
    model = planner.instance()
    den = within(numbers[1], 1, MOST_PART)
    num = within(numbers[0], 1, den)
    model.limit = ratio(num, den)
    return [0]


def add_option(planner, numbers):
    """Adds an option behind the others of a station."""
    station = planner.instance().station_at(numbers[0])
    servers = within(numbers[1], 1, MOST_SERVERS)
    rate = within(numbers[2], 1, MOST_RATE)
    cost = within(numbers[3], 0, MOST_COST)
    place = len(station.options)
    if place >= MOST_OPTIONS:
        raise TooManyOptions()
    station.options.append(Option(servers, rate, cost))
    return [place]


def remove_option(planner, numbers):
    """Removes an option; the later ones move up."""
    station = planner.instance().station_at(numbers[0])
    station.option_at(numbers[1])
    station.options.pop(numbers[1])
    return [len(station.options)]


def set_cost(planner, numbers):
    """Changes the cost of an option."""
    option = planner.instance().station_at(numbers[0]).option_at(numbers[1])
    cost = within(numbers[2], 0, MOST_COST)
    old = option.cost
    option.cost = cost
    return [old]


def option_info(planner, numbers):
    """Answers what an option is, and its utilization."""
    station = planner.instance().station_at(numbers[0])
    option = station.option_at(numbers[1])
    used = option_utilization(station, option)
    return [option.servers, option.rate, option.cost] + list(used)


def option_number(planner, numbers):
    """Answers the number and the weighted number of an option."""
    model = planner.instance()
    station = model.station_at(numbers[0])
    option = station.option_at(numbers[1])
    if not is_allowed(model, station, option):
        raise NotAllowed()
    return [0] + list(option_mean(station, option)) + list(weighted_mean(station, option))


def allowed(planner, numbers):
    """Answers the allowed options of a station."""
    model = planner.instance()
    places = allowed_places(model, model.station_at(numbers[0]))
    return [len(places)] + places


def dominated(planner, numbers):
    """Answers the dominated options of a station."""
    model = planner.instance()
    places = dominated_places(model, model.station_at(numbers[0]))
    return [len(places)] + places


# By the number of the operation: how many whole numbers it takes, and what carries it out.
OPERATIONS = {
    0: (1, create),
    1: (2, set_arrival),
    2: (2, set_weight),
    3: (2, set_target),
    4: (2, set_limit),
    5: (4, add_option),
    6: (2, remove_option),
    7: (3, set_cost),
    8: (2, option_info),
    9: (2, option_number),
    10: (1, allowed),
    11: (1, dominated),
}


def numbers_taken(operation):
    """How many whole numbers the operation with this number takes."""
    return OPERATIONS[operation][0]


def carry_out(operation, planner, numbers):
    """What the operation with this number answers."""
    return OPERATIONS[operation][1](planner, numbers)
