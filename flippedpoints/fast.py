"""The fast way to least flows: by how often the points of a cut are left."""

from flippedpoints.checks import check_leading, check_lot, check_train, check_trains
from flippedpoints.cutting import ring_around
from flippedpoints.dealing import come_to_ends, deals_of, setting_behind
from flippedpoints.errors import NotCut, TooMany
from flippedpoints.knots import FEW_POINTS, few_points_cut, least_by_cut


def few_points_cut_of(rows):
    """A cut of the rows of exits; raises TooMany if each one has more than four points."""
    cut = few_points_cut(rows)
    if cut is None:
        raise TooMany("cut", FEW_POINTS)
    return cut


def one_train(points, begin):
    """The starts of one train."""
    return [int(point == begin) for point in range(points)]


def _fast_flow(net, setting, starts):
    check_leading(net)
    rows = net.exits()
    return least_by_cut(rows, setting, starts, few_points_cut_of(rows))


def fast_flow(net, setting, starts):
    """The least flow."""
    check_trains(net, setting, starts)
    return _fast_flow(net, setting, starts)


def fast_flow_by(net, setting, starts, lot):
    """The least flow, by this cut."""
    check_trains(net, setting, starts)
    check_lot(net, lot)
    check_leading(net)
    rows = net.exits()
    if ring_around(rows, lot) is not None:
        raise NotCut()
    return least_by_cut(rows, setting, starts, lot)


def long_run(net, setting, begin):
    """The end to which one train comes, how many steps it takes, and its visits."""
    check_train(net, setting, begin)
    visits = _fast_flow(net, setting, one_train(net.points, begin))
    come = come_to_ends(deals_of(net.exits(), setting), net.ends, visits)
    return come.index(1), sum(visits), visits


def sent(net, setting, starts):
    """The setting behind the least flow, and how many have come to each end."""
    check_trains(net, setting, starts)
    visits = _fast_flow(net, setting, starts)
    rows = net.exits()
    come = come_to_ends(deals_of(rows, setting), net.ends, visits)
    return setting_behind(rows, setting, visits), come
