"""The interface: a list of calls in, the list of their answers out."""

from stationplans.model import Planner
from stationplans.operations import carry_out, read_arguments
from stationplans.reading import Reader
from stationplans.refusals import Missing, NoInstance, NotAllowed, OutOfRange, TooManyOptions


def answers(calls):
    """The answers to the calls, made one behind another on a new object."""
    planner = Planner()
    reader = Reader(calls)
    given = []
    while reader.has_more():
        operation = reader.number()
        arguments = read_arguments(operation, reader)
        answer = answer_or_code(operation, planner, arguments)
        given.append(len(answer))
        given.extend(answer)
    return given


def answer_or_code(operation, planner, arguments):
    """What the operation answers; if it refuses, its error code alone."""
    try:
        return carry_out(operation, planner, arguments)
    except NoInstance:
        return [-11]
    except Missing:
        return [-2]
    except OutOfRange:
        return [-22]
    except TooManyOptions:
        return [-28]
    except NotAllowed:
        return [-33]
