"""What the tests share: calls by name, and their answers one by one."""

from stationplans.capacity import answers

CREATE = 0
SET_ARRIVAL = 1
SET_WEIGHT = 2
SET_TARGET = 3
SET_LIMIT = 4
ADD_OPTION = 5
REMOVE_OPTION = 6
SET_COST = 7
OPTION_INFO = 8
OPTION_NUMBER = 9
ALLOWED = 10
DOMINATED = 11
EVALUATE = 12
BEST = 13
BEST_FOR = 14
FRONTIER = 15
COUNTS = 16
BOUND = 17
BEST_BOUND = 18
IMPROVEMENT = 19
RESERVE = 20
COMPARE_PLANS = 21
SUMMARY = 22

GREATEST = 4294967295

NO_INSTANCE = [-11]
MISSING = [-2]
OUT_OF_RANGE = [-22]
TOO_MANY = [-28]
NOT_ALLOWED = [-33]
NO_RESULT = [-33]


def written(calls):
    """The one list of whole numbers for a list of calls, each a tuple of whole numbers and lists."""
    numbers = []
    for call in calls:
        for argument in call:
            if isinstance(argument, list):
                numbers.append(len(argument))
                numbers.extend(argument)
            else:
                numbers.append(argument)
    return numbers


def split(given):
    """The answers one by one, from the list that is given back."""
    each = []
    place = 0
    while place < len(given):
        end = place + 1 + given[place]
        if given[place] < 1 or end > len(given):
            raise AssertionError(f"no whole answer at {place} of {given}")
        each.append(given[place + 1:end])
        place = end
    return each


def ask(calls):
    """The answer to each of the calls, made on one object."""
    each = split(answers(written(calls)))
    if len(each) != len(calls):
        raise AssertionError(f"{len(calls)} calls, {len(each)} answers")
    return each


def ask_after(ahead, calls):
    """The answers to the calls alone, with others made ahead of them."""
    return ask(list(ahead) + list(calls))[len(ahead):]


def last(calls):
    """The answer to the last of the calls."""
    return ask(calls)[-1]


def made(stations, target=None, limit=None):
    """The calls that make stations, each (arrival, weight, options) with options (servers, rate, cost)."""
    calls = [(CREATE, len(stations))]
    for place, (arrival, weight, options) in enumerate(stations):
        calls += [(SET_ARRIVAL, place, arrival), (SET_WEIGHT, place, weight)]
        calls += [(ADD_OPTION, place, *option) for option in options]
    if target is not None:
        calls.append((SET_TARGET, *target))
    if limit is not None:
        calls.append((SET_LIMIT, *limit))
    return calls


def single(number, cost):
    """An option of one server that has this number, a divisor of 12, at a station with arrival 12."""
    return (1, 12 + 12 // number, cost)


def part(share, cost):
    """An option of one server that has the number 1 / share at a station with arrival 12."""
    return (1, 12 + 12 * share, cost)
