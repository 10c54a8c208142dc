"""Checks of parameters that several files share."""

from flippedpoints.basics import are_numbers, is_count_below
from flippedpoints.errors import InvalidMost, InvalidStarts, InvalidVisits, NotLeading
from flippedpoints.nets import is_leading

MOST_STEPS = 100000


def check_starts(net, starts):
    """Raise InvalidStarts unless they are a NUMBER for each point."""
    if not are_numbers(starts, net.points):
        raise InvalidStarts(starts)


def check_visits(net, visits):
    """Raise InvalidVisits unless they are a NUMBER for each point."""
    if not are_numbers(visits, net.points):
        raise InvalidVisits(visits)


def check_most(most, bound):
    """Raise InvalidMost unless it is a COUNT to the bound."""
    if not is_count_below(most, bound + 1):
        raise InvalidMost(most)


def check_leading(net):
    """Raise NotLeading unless the net is leading."""
    if not is_leading(net):
        raise NotLeading()
