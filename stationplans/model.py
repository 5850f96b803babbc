"""What an instance holds: stations with their options, a target and a limit."""

from stationplans.ratios import whole
from stationplans.refusals import Missing, NoInstance


class Option:
    """Equipment that a station may have."""

    def __init__(self, servers, rate, cost):
        self.servers = servers
        self.rate = rate
        self.cost = cost


class Station:
    """A station, as it is after create."""

    def __init__(self):
        self.arrival = 1
        self.weight = 1
        self.options = []

    def option_at(self, place):
        """The option with this number."""
        if place >= len(self.options):
            raise Missing()
        return self.options[place]


class Model:
    """An instance, as it is after create."""

    def __init__(self, station_count):
        self.stations = [Station() for place in range(station_count)]
        self.target = whole(0)
        self.limit = whole(1)

    def station_at(self, place):
        """The station with this number."""
        if place >= len(self.stations):
            raise Missing()
        return self.stations[place]


class Planner:
    """The object that the calls are made on; its model is None ahead of create."""

    def __init__(self):
        self.model = None

    def instance(self):
        """The model, if there is one."""
        if self.model is None:
            raise NoInstance()
        return self.model
