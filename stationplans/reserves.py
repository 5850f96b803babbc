"""How far the arrivals of a plan may grow."""

from stationplans.model import Model, Option, Station
from stationplans.plans import allowed_plan, is_allowed_plan, is_feasible

MOST_PERCENT = 300


def grown_station(station, percent):
    """A station with the arrival rate at this percent of what it is."""
    grown = Station()
    grown.arrival = station.arrival * percent
    grown.weight = station.weight
    # Only the ratio of arrivals and rates counts, so the rates take the 100 and all stay whole.
    grown.options = [Option(option.servers, option.rate * 100, option.cost) for option in station.options]
    return grown


def grown_model(model, percent):
    """A model with all arrival rates at this percent of what they are."""
    grown = Model(len(model.stations))
    grown.stations = [grown_station(station, percent) for station in model.stations]
    grown.target = model.target
    grown.limit = model.limit
    return grown


def bears(model, places, percent):
    """Whether a plan is allowed and feasible with the arrival rates at this percent."""
    grown = grown_model(model, percent)
    return is_allowed_plan(grown, places) and is_feasible(allowed_plan(grown, places), grown.target)


def reserve_of(model, places):
    """The greatest percent that an allowed plan bears, 0 if it bears none."""
    # Utilizations and numbers grow with the arrival rates: below a percent that is borne all are.
    borne = 0
    most = MOST_PERCENT
    while borne < most:
        percent = (borne + most + 1) // 2
        if bears(model, places, percent):
            borne = percent
        else:
            most = percent - 1
    return borne
