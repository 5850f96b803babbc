"""Which options of a station are allowed, their numbers, and which are dominated."""

from stationplans.queues import mean_number, utilization
from stationplans.ratios import less, times, whole


def option_utilization(station, option):
    """The utilization of an option of the station."""
    return utilization(station.arrival, option.servers, option.rate)


def is_allowed(model, station, option):
    """Whether an option of the station is allowed."""
    used = option_utilization(station, option)
    return less(used, whole(1)) and not less(model.limit, used)


def option_mean(station, option):
    """The number of an allowed option of the station."""
    return mean_number(station.arrival, option.servers, option.rate)


def weighted_mean(station, option):
    """The weighted number of an allowed option of the station."""
    return times(whole(station.weight), option_mean(station, option))


def allowed_places(model, station):
    """The numbers of the station's allowed options, in increasing order."""
    return [place for place, option in enumerate(station.options) if is_allowed(model, station, option)]


def dominated_places(model, station):
    """The numbers of the allowed options that an allowed option dominates, in increasing order."""
    places = allowed_places(model, station)
    pairs = [cost_and_mean(station, station.options[place]) for place in places]
    return [place for place, pair in zip(places, pairs) if is_dominated(pair, pairs)]


def cost_and_mean(station, option):
    """The cost and the weighted number of an allowed option."""
    return (option.cost, weighted_mean(station, option))


def is_dominated(pair, others):
    """Whether one of the others dominates the pair of a cost and a number."""
    return any([dominates(other, pair) for other in others])


def dominates(one, other):
    """Whether a pair of a cost and a number dominates another one."""
    if one[0] > other[0] or less(other[1], one[1]):
        return False
    return one != other
