"""The interface: a list of calls in, the list of their answers out."""

from stationplans.model import Planner
from stationplans.operations import carry_out, numbers_taken
from stationplans.refusals import Missing, NoInstance, NotAllowed, OutOfRange, TooManyOptions


def answers(calls):
    """The answers to the calls, made one behind another on a new object."""
    planner = Planner()
    given = []
    place = 0
    while place < len(calls):
        operation = calls[place]
        end = place + 1 + numbers_taken(operation)
        answer = answer_or_code(operation, planner, calls[place + 1:end])
        given.append(len(answer))
        given.extend(answer)
        place = end
    return given


def answer_or_code(operation, planner, numbers):
    """What the operation answers; if it refuses, its error code alone."""
    try:
        return carry_out(operation, planner, numbers)
    except NoInstance:
        return [-11]
    except Missing:
        return [-2]
    except OutOfRange:
        return [-22]
    except TooManyOptions:
        return [-28]
    except NotAllowed:
        return [-33]
