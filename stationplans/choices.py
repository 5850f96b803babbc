"""Which options of a station are allowed, their numbers, and which are dominated."""

from stationplans.queues import mean_number, utilization
from stationplans.ratios import less, times, whole


class Choice:
    """An allowed option of a station: its number there, its cost and its weighted number."""

    def __init__(self, place, cost, mean):
        self.place = place
        self.cost = cost
        self.mean = mean


def option_utilization(station, option):
    """The utilization of an option of the station."""
    return utilization(station.arrival, option.servers, option.rate)


def is_allowed(model, station, option):
    """Whether an option of the station is allowed."""
    used = option_utilization(station, option)
    return less(used, whole(1)) and not less(model.limit, used)


def option_mean(station, option):
    """The number of an allowed option of the station."""
    return mean_number(station.arrival, option.servers, option.rate)


def weighted_mean(station, option):
    """The weighted number of an allowed option of the station."""
    return times(whole(station.weight), option_mean(station, option))


def allowed_places(model, station):
    """The numbers of the station's allowed options, in increasing order."""
    return [place for place, option in enumerate(station.options) if is_allowed(model, station, option)]


def choice_at(station, place):
    """The allowed option with this number."""
    option = station.options[place]
    return Choice(place, option.cost, weighted_mean(station, option))


def allowed_choices(model, station):
    """The station's allowed options, in the order of their numbers."""
    return [choice_at(station, place) for place in allowed_places(model, station)]


def dominated_places(model, station):
    """The numbers of the allowed options that an allowed option dominates, in increasing order."""
    choices = allowed_choices(model, station)
    return [choice.place for choice in choices if is_dominated(choice, choices)]


def is_dominated(choice, others):
    """Whether one of the others dominates the choice."""
    return any([dominates(other, choice) for other in others])


def dominates(one, other):
    """Whether a choice dominates another one, or a plan another one."""
    if one.cost > other.cost or less(other.mean, one.mean):
        return False
    return one.cost < other.cost or less(one.mean, other.mean)
