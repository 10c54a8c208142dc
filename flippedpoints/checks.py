"""Checks of parameters that several files share."""

from flippedpoints.basics import are_numbers, is_count_below, is_number
from flippedpoints.errors import InvalidEnd, InvalidLot, InvalidMost, InvalidStarts, InvalidTimes, InvalidVisits
from flippedpoints.errors import NotLeading
from flippedpoints.nets import check_net, check_point, check_setting, is_leading, is_lot

MOST_STEPS = 100000


def check_starts(net, starts):
    """Raise InvalidStarts unless they are a NUMBER for each point."""
    if not are_numbers(starts, net.points):
        raise InvalidStarts(starts)


def check_visits(net, visits):
    """Raise InvalidVisits unless they are a NUMBER for each point."""
    if not are_numbers(visits, net.points):
        raise InvalidVisits(visits)


def check_train(net, setting, begin):
    """Check a net, a setting of it, and the point at which one train begins."""
    check_net(net)
    check_setting(net, setting)
    check_point(net, begin)


def check_trains(net, setting, starts):
    """Check a net, a setting of it, and how many trains begin at each point."""
    check_net(net)
    check_setting(net, setting)
    check_starts(net, starts)


def check_end(net, end):
    """Raise InvalidEnd unless it is one of the net's ends."""
    if not is_count_below(end, net.ends):
        raise InvalidEnd(end)


def check_lot(net, lot):
    """Raise InvalidLot unless it is a rising list of points of the net."""
    if not is_lot(net, lot):
        raise InvalidLot(lot)


def check_most(most, bound):
    """Raise InvalidMost unless it is a COUNT to the bound."""
    if not is_count_below(most, bound + 1):
        raise InvalidMost(most)


def check_times(times):
    """Raise InvalidTimes unless it is a NUMBER."""
    if not is_number(times):
        raise InvalidTimes(times)


def check_leading(net):
    """Raise NotLeading unless the net is leading."""
    if not is_leading(net):
        raise NotLeading()
