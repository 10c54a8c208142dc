"""Exact shares of ends, expected visits, tilts of settings, and what comes by them."""

from flippedpoints.checks import check_end, check_leading, check_starts, check_trains
from flippedpoints.dealing import setting_behind
from flippedpoints.fast import fast_flow, one_train
from flippedpoints.linear import exits_table, solution, turned
from flippedpoints.nets import check_net, check_point, check_setting
from flippedpoints.ratios import are_fractions, common_multiple, fraction


def gone_parts(net, begin):
    """For each point how often each of its exits is expected to be gone, as integers over one, and this."""
    rows = net.exits()
    return solution(turned(exits_table(rows)), one_train(net.points, begin))


def _share_parts(net, end):
    """The shares of the end from the points, as integers over one, and this."""
    rows = net.exits()
    return solution(exits_table(rows), [row.count(-1 - end) for row in rows])


def _check_begin(net, begin):
    check_net(net)
    check_point(net, begin)
    check_leading(net)


def _check_share(net, end):
    check_net(net)
    check_end(net, end)
    check_leading(net)


def expected(net, begin):
    """How often a train by chance leaves each point on the average."""
    _check_begin(net, begin)
    parts, whole = gone_parts(net, begin)
    return [fraction(part * len(row), whole) for part, row in zip(parts, net.exits())]


def share(net, end):
    """The shares of the end from the points."""
    _check_share(net, end)
    parts, whole = _share_parts(net, end)
    return [fraction(part, whole) for part in parts]


def is_share(net, end, value):
    """Whether any value is the list of the shares: each one the mean of those of its exits' targets."""
    _check_share(net, end)
    if not are_fractions(value, net.points):
        return False
    whole = common_multiple([beneath for _, beneath in value])
    parts = [over * (whole // beneath) for over, beneath in value]
    rows = net.exits()
    return all([part * len(row) == sum([_worth(parts, whole, end, target) for target in row])
                for part, row in zip(parts, rows)])


def _worth(parts, whole, end, target):
    """The share of the end from the target, in parts of the whole."""
    if target >= 0:
        return parts[target]
    return whole if target == -1 - end else 0


def is_expected(net, begin, value):
    """Whether any value is the list of the expected visits: each is what comes to the point, the beginning counted."""
    _check_begin(net, begin)
    if not are_fractions(value, net.points):
        return False
    rows = net.exits()
    whole = common_multiple([beneath * len(row) for (_, beneath), row in zip(value, rows)])
    parts = [over * (whole // beneath) for over, beneath in value]
    found = [whole * many for many in one_train(net.points, begin)]
    for part, row in zip(parts, rows):
        for target in row:
            if target >= 0:
                found[target] += part // len(row)
    return found == parts


def tilt(net, setting, end):
    """The tilt of the setting for the end."""
    check_net(net)
    check_setting(net, setting)
    check_end(net, end)
    check_leading(net)
    rises, whole = _rises(net, end)
    return fraction(_tilt_part(rises, setting), whole)


def _rises(net, end):
    """For each point and each place of its next exit what this adds to the tilt, as integers over one, and this."""
    parts, whole = _share_parts(net, end)
    rises = []
    for point, row in enumerate(net.exits()):
        steps = [_worth(parts, whole, end, target) - parts[point] for target in row]
        rises.append([sum(steps[:spot]) for spot in range(len(row))])
    return rises, whole


def _tilt_part(rises, setting):
    return sum([rise[spot] for rise, spot in zip(rises, setting)])


def _tilt_bounds(rises):
    return sum([min(rise) for rise in rises]), sum([max(rise) for rise in rises])


def tilts(net, end):
    """The least and the greatest tilt over all settings."""
    _check_share(net, end)
    rises, whole = _rises(net, end)
    least, greatest = _tilt_bounds(rises)
    return fraction(least, whole), fraction(greatest, whole)


def come_by_tilt(net, setting, starts, end):
    """How many trains come to the end, by their shares and by the tilts ahead of them and behind them."""
    check_trains(net, setting, starts)
    check_end(net, end)
    later = setting_behind(net.exits(), setting, fast_flow(net, setting, starts))
    rises, whole = _rises(net, end)
    return (_shared(net, starts, end) + _tilt_part(rises, later) - _tilt_part(rises, setting)) // whole


def _shared(net, starts, end):
    """The sum of the shares of all trains, in parts as in _rises."""
    parts, _ = _share_parts(net, end)
    return sum([many * part for many, part in zip(starts, parts)])


def come_bounds(net, starts, end):
    """The least and the greatest number of trains that can come to the end, over all settings, by the tilts."""
    check_net(net)
    check_starts(net, starts)
    check_end(net, end)
    check_leading(net)
    rises, whole = _rises(net, end)
    least, greatest = _tilt_bounds(rises)
    middle = _shared(net, starts, end)
    # Rounded up below, and down above.
    few = -((greatest - least - middle) // whole)
    many = (middle + greatest - least) // whole
    return max(0, few), min(sum(starts), many)
