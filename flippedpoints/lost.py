"""Lost points, shut lots, nets closed at lots, and what becomes of trains that may be lost."""

from flippedpoints.checks import check_lot, check_train, check_trains
from flippedpoints.dealing import come_to_ends, deals_of
from flippedpoints.errors import TooMany
from flippedpoints.fast import few_points_cut_of, one_train
from flippedpoints.knots import least_by_cut
from flippedpoints.nets import MOST_ENDS, Net, check_net, check_setting, is_lot, points_to_ends


def lost_points(net):
    """The rising list of the points from which no row of tracks leads to an end."""
    check_net(net)
    found = points_to_ends(net)
    return [point for point in range(net.points) if point not in found]


def is_shut(net, value):
    """Whether any value is a rising list of points whose exits all lead to points of it."""
    check_net(net)
    if not is_lot(net, value):
        return False
    rows = net.exits()
    return all([target in value for point in value for target in rows[point]])


def closed(net, setting, lot):
    """The net closed at the lot, and the setting that goes with it."""
    check_net(net)
    check_setting(net, setting)
    check_lot(net, lot)
    if net.ends == MOST_ENDS:
        raise TooMany("ends", MOST_ENDS)
    rows, spots = closed_rows(net, setting, lot)
    return Net(net.ends + 1, rows), spots


def closed_rows(net, setting, lot):
    """The rows of exits of the net closed at the lot, the new end being its seventh one perhaps, and the setting."""
    rows = [[-1 - net.ends] if point in lot else row for point, row in enumerate(net.exits())]
    return rows, [0 if point in lot else spot for point, spot in enumerate(setting)]


def sent_closed(net, setting, starts):
    """The least flow of the net closed at its lost points, and how many come by it to each end, the new one last."""
    rows, spots = closed_rows(net, setting, lost_points(net))
    visits = least_by_cut(rows, spots, starts, few_points_cut_of(rows))
    return visits, come_to_ends(deals_of(rows, spots), net.ends + 1, visits)


def one_closed(net, setting, begin):
    """The visits of one train of the net closed at its lost points, and the end to which it comes there."""
    visits, come = sent_closed(net, setting, one_train(net.points, begin))
    return visits, come.index(1)


def entered(net, setting, begin):
    """Where the train enters: ("end", k) of an end, or ("lost", point)."""
    check_train(net, setting, begin)
    visits, end = one_closed(net, setting, begin)
    if end < net.ends:
        return "end", end
    return "lost", [point for point in lost_points(net) if visits[point] > 0][0]


def never_ends(net, setting, begin):
    """Whether the train enters a lost point."""
    check_train(net, setting, begin)
    _, end = one_closed(net, setting, begin)
    return end == net.ends


def lost_by(net, setting, starts):
    """How many of the trains are lost."""
    check_trains(net, setting, starts)
    _, come = sent_closed(net, setting, starts)
    return come[-1]
