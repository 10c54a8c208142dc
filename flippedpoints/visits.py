"""Visits from a setting: how they are dealt to tracks, which are flows, and their rings."""

from flippedpoints.basics import are_numbers, is_row
from flippedpoints.checks import check_trains, check_visits
from flippedpoints.dealing import arrivals, come_to_ends, deals_of, found_ring
from flippedpoints.dealing import last_targets, less_once, setting_behind, times_gone
from flippedpoints.errors import InvalidRing
from flippedpoints.nets import check_net, check_setting, is_point


def _check_visits_from(net, setting, visits):
    check_net(net)
    check_setting(net, setting)
    check_visits(net, visits)


def gone(net, setting, visits):
    """How often each track is gone."""
    _check_visits_from(net, setting, visits)
    return times_gone(deals_of(net.exits(), setting), visits)


def behind(net, setting, visits):
    """The setting behind the visits."""
    _check_visits_from(net, setting, visits)
    return setting_behind(net.exits(), setting, visits)


def arriving(net, setting, starts, visits):
    """How many arrive at each point."""
    check_trains(net, setting, starts)
    check_visits(net, visits)
    return arrivals(deals_of(net.exits(), setting), starts, visits)


def come(net, setting, visits):
    """How many have come to each end."""
    _check_visits_from(net, setting, visits)
    return come_to_ends(deals_of(net.exits(), setting), net.ends, visits)


def is_flow(net, setting, starts, value):
    """Whether any value is a flow for the starts, from the setting."""
    check_trains(net, setting, starts)
    if not are_numbers(value, net.points):
        return False
    return arrivals(deals_of(net.exits(), setting), starts, value) == list(value)


def has_ring(net, setting, visits):
    """Whether the visits have a ring."""
    _check_visits_from(net, setting, visits)
    return found_ring(net.exits(), setting, visits) is not None


def ring_of_visits(net, setting, visits):
    """A ring of the visits; None if there is none."""
    _check_visits_from(net, setting, visits)
    return found_ring(net.exits(), setting, visits)


def less_ring(net, setting, visits, ring):
    """The visits less the ring."""
    _check_visits_from(net, setting, visits)
    if not is_ring(net, setting, visits, ring):
        raise InvalidRing(ring)
    return less_once(visits, ring)


def is_ring(net, setting, visits, value):
    """Whether any value is a ring of the visits."""
    if not is_row(value) or len(value) == 0 or not all([is_point(net, point) for point in value]):
        return False
    if len(set(value)) < len(value):
        return False
    lasts = last_targets(net.exits(), setting, visits)
    # The entry ahead of the first one is the last one, as in a ring.
    return all([lasts[value[at - 1]] == point for at, point in enumerate(value)])
