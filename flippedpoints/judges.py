"""Judges of papers: each takes any value at one look."""

from flippedpoints.basics import are_numbers, is_integer, is_row
from flippedpoints.checks import check_end, check_train, check_trains
from flippedpoints.dealing import arrivals, come_to_ends, deals_of
from flippedpoints.fast import one_train
from flippedpoints.least import is_least_flow
from flippedpoints.lost import closed_rows, is_shut
from flippedpoints.nets import is_leading
from flippedpoints.visits import come, is_flow


def is_arrive_paper(net, setting, begin, end, value):
    """Whether any value is an arrive paper: a flow of one train by which 1 has come to the end."""
    check_train(net, setting, begin)
    check_end(net, end)
    if not is_flow(net, setting, one_train(net.points, begin), value):
        return False
    return come(net, setting, value)[end] == 1


def is_never_paper(net, setting, begin, value):
    """Whether any value is a never paper: a shut lot, and a flow of one train that has come into it."""
    check_train(net, setting, begin)
    if not isinstance(value, tuple) or len(value) != 2:
        return False
    lot, visits = value
    if not is_shut(net, lot) or len(lot) == 0 or not are_numbers(visits, net.points):
        return False
    rows, spots = closed_rows(net, setting, lot)
    deals = deals_of(rows, spots)
    if arrivals(deals, one_train(net.points, begin), visits) != list(visits):
        return False
    return come_to_ends(deals, net.ends + 1, visits)[-1] == 1


def is_own_paper(net, setting, begin, value):
    """Whether any value is the train's own visits: a flow without a ring."""
    check_train(net, setting, begin)
    return is_least_flow(net, setting, one_train(net.points, begin), value)


def is_crowd_paper(net, setting, starts, value):
    """Whether any value is the crowd paper: a flow without a ring and what comes by it, in a leading net."""
    check_trains(net, setting, starts)
    if not is_leading(net) or not isinstance(value, tuple) or len(value) != 2:
        return False
    visits, told = value
    if not is_least_flow(net, setting, starts, visits):
        return False
    # True equals 1, so kinds are looked at ahead of the comparison.
    if not is_row(told) or not all([is_integer(many) for many in told]):
        return False
    return list(told) == come(net, setting, visits)
