"""The ranges of the arguments."""

from stationplans.ratios import ratio
from stationplans.refusals import OutOfRange

MOST_STATIONS = 4
MOST_OPTIONS = 6
MOST_SERVERS = 10
MOST_RATE = 100000
MOST_WEIGHT = 1000
MOST_COST = 100000
MOST_PART = 1000000


def within(number, least, most):
    """The number itself, if it is from least to most."""
    if number < least or number > most:
        raise OutOfRange()
    return number


def fraction_within(num, den):
    """The fraction num / den, if both are in their ranges."""
    return ratio(within(num, 0, MOST_PART), within(den, 1, MOST_PART))
