"""Least flows: by rounds, by taking back rings, and those between two flows."""

from flippedpoints.checks import check_leading, check_most, check_trains, check_visits
from flippedpoints.dealing import arrivals, deals_of, found_ring, less_once
from flippedpoints.errors import NotFlow, TooMany
from flippedpoints.visits import has_ring, is_flow

MOST_ROUNDS = 20000
MOST_TRIES = 50000
MOST_VISITS = 20000
MOST_BELOW = 12


def _check_flow(net, setting, starts, visits):
    if not is_flow(net, setting, starts, visits):
        raise NotFlow()


def _flow_from(net, setting, starts, first):
    """The flow to which rounds come that begin with these visits."""
    deals = deals_of(net.exits(), setting)
    now = first
    later = arrivals(deals, starts, now)
    rounds = 0
    while later != now:
        if rounds == MOST_ROUNDS:
            raise TooMany("rounds", MOST_ROUNDS)
        rounds += 1
        now = later
        later = arrivals(deals, starts, now)
    return now


def least_flow(net, setting, starts):
    """The least flow of a leading net."""
    check_trains(net, setting, starts)
    check_leading(net)
    return _flow_from(net, setting, starts, [0] * net.points)


def flows_below(net, setting, starts, most):
    """The sorted list of all flows that have no number above most."""
    check_trains(net, setting, starts)
    check_most(most, MOST_BELOW)
    deals = deals_of(net.exits(), setting)
    return [visits for visits in _rows_to(most, net.points) if arrivals(deals, starts, visits) == visits]


def _rows_to(most, points):
    """The sorted list of all lists of a COUNT to most for each point."""
    tries = 1
    for _ in range(points):
        tries *= most + 1
    if tries > MOST_TRIES:
        raise TooMany("tries", MOST_TRIES)
    rows = [[]]
    for _ in range(points):
        rows = [row + [many] for row in rows for many in range(most + 1)]
    return rows


def is_least_flow(net, setting, starts, value):
    """Whether any value is the least flow: a flow whose visits have no ring."""
    return is_flow(net, setting, starts, value) and not has_ring(net, setting, value)


def reduced(net, setting, starts, visits):
    """The least flow, out of any flow, by taking back rings."""
    check_trains(net, setting, starts)
    check_visits(net, visits)
    _check_flow(net, setting, starts, visits)
    rows = net.exits()
    left = list(visits)
    taken = 0
    ring = found_ring(rows, setting, left)
    while ring is not None:
        taken += len(ring)
        if taken > MOST_VISITS:
            raise TooMany("visits", MOST_VISITS)
        left = less_once(left, ring)
        ring = found_ring(rows, setting, left)
    return left


def _check_both(net, setting, starts, visits, others):
    check_trains(net, setting, starts)
    check_visits(net, visits)
    check_visits(net, others)
    check_leading(net)
    _check_flow(net, setting, starts, visits)
    _check_flow(net, setting, starts, others)


def met(net, setting, starts, visits, others):
    """The meeting flow of two flows: the greatest one that is nowhere above either."""
    _check_both(net, setting, starts, visits, others)
    lesser = [min(one, two) for one, two in zip(visits, others)]
    return _flow_from(net, setting, starts, lesser)


def joined(net, setting, starts, visits, others):
    """The joined flow of two flows: the least one that is nowhere below either."""
    _check_both(net, setting, starts, visits, others)
    greater = [max(one, two) for one, two in zip(visits, others)]
    return _flow_from(net, setting, starts, greater)
