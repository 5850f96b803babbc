"""The utilization and the mean number of customers of a station's servers."""

from stationplans.ratios import minus, over, plus, ratio, times, whole


def utilization(arrival, servers, rate):
    """The share of the servers' whole rate that the arrivals take."""
    return ratio(arrival, servers * rate)


def mean_number(arrival, servers, rate):
    """The mean number of customers; the utilization is below 1."""
    used = utilization(arrival, servers, rate)
    idle = minus(whole(1), used)
    offered = ratio(arrival, rate)
    waiting = times(wait_chance(offered, servers, used), over(used, idle))
    return plus(offered, waiting)


def wait_chance(offered, servers, used):
    """C of the document: the chance that a customer has to wait."""
    lost = loss_chance(offered, servers)
    kept = minus(whole(1), lost)
    return over(lost, minus(whole(1), times(used, kept)))


def loss_chance(offered, servers):
    """B(servers) of the document: the chance of loss if nobody could wait."""
    lost = whole(1)
    for busy in range(servers):
        load = times(offered, lost)
        lost = over(load, plus(whole(busy + 1), load))
    return lost
