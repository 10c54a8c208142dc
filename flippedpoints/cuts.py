"""Rings of tracks, and cuts: points through one of which each ring of tracks goes."""

from flippedpoints.basics import is_count_below, is_row
from flippedpoints.checks import check_lot
from flippedpoints.cutting import first_cut, less_needless, order_without, ring_around
from flippedpoints.errors import NotCut, TooMany
from flippedpoints.nets import check_net, is_lot, track_at

MOST_TRIES = 20000


def is_cut(net, value):
    """Whether any value is a cut of the net."""
    check_net(net)
    return is_lot(net, value) and ring_around(net.exits(), value) is None


def ring_without(net, lot):
    """A ring of tracks through no point of the lot; None if the lot is a cut."""
    check_net(net)
    check_lot(net, lot)
    rows = net.exits()
    ring = ring_around(rows, lot)
    if ring is None:
        return None
    goals = ring[1:] + ring[:1]
    return [track_at(net, point, rows[point].index(goal)) for point, goal in zip(ring, goals)]


def is_ring_without(net, lot, value):
    """Whether any value is a ring of tracks through no point of the lot."""
    check_net(net)
    check_lot(net, lot)
    if not is_row(value) or len(value) == 0 or not all([is_count_below(track, net.many) for track in value]):
        return False
    points = [point for point, row in enumerate(net.exits()) for _ in row]
    targets = net.targets()
    # The track ahead of the first one is the last one, as in a ring.
    joined = all([targets[value[at - 1]] == points[track] for at, track in enumerate(value)])
    return joined and all([points[track] not in lot for track in value])


def sequence_without(net, lot):
    """The other points, each behind all of them that lead to it, the least first that can be."""
    check_net(net)
    check_lot(net, lot)
    order = order_without(net.exits(), lot)
    if order is None:
        raise NotCut()
    return order


def good_cut(net):
    """A cut from which no point can be taken out."""
    check_net(net)
    return less_needless(net.exits(), list(range(net.points)))


def fewest_cut(net):
    """The first one that is a cut of all rising lists, those of fewer points first."""
    check_net(net)
    cut = first_cut(net.exits(), net.points, MOST_TRIES)
    if cut is None:
        raise TooMany("tries", MOST_TRIES)
    return cut
