"""Yards: a net, a setting of it, and how many trains have come to each end, a tuple; what deeds make of them."""

from flippedpoints.basics import is_count_below
from flippedpoints.commands import lines_of, list_text
from flippedpoints.errors import FullPoint, InvalidExit, InvalidTarget, LastExit
from flippedpoints.fast import fast_flow, long_run, sent
from flippedpoints.lost import lost_points
from flippedpoints.mends import swapped_exits
from flippedpoints.nets import MOST_EXITS, Net, check_point, check_setting, first_setting, is_target
from flippedpoints.readers import net_text
from flippedpoints.shares import share
from flippedpoints.timetable import passing_time
from flippedpoints.trees import many_trees, period


def yard_of(net):
    """The yard of a net with its first setting, where nobody has come."""
    return net, tuple(first_setting(net)), (0,) * net.ends


def yard_behind(yard, word, parts):
    """The yard behind a deed of this word."""
    if word == "set":
        return _set(yard, parts[0])
    if word == "send":
        return _sent(yard, parts[0])
    if word == "lay":
        return _laid(yard, parts[0], parts[1])
    if word == "take":
        return _taken(yard, parts[0], parts[1])
    net, setting, come = yard
    return swapped_exits(net, parts[0], parts[1], parts[2]), setting, come


def _set(yard, setting):
    net, _, come = yard
    check_setting(net, setting)
    return net, tuple(setting), come


def _sent(yard, starts):
    net, setting, come = yard
    behind, more = sent(net, setting, starts)
    return net, tuple(behind), tuple([many + further for many, further in zip(come, more)])


def _laid(yard, point, target):
    net, setting, come = yard
    check_point(net, point)
    if not is_target(net, target):
        raise InvalidTarget(target)
    rows = net.exits()
    if len(rows[point]) == MOST_EXITS:
        raise FullPoint()
    rows[point].append(target)
    return Net(net.ends, rows), setting, come


def _taken(yard, point, spot):
    net, setting, come = yard
    check_point(net, point)
    rows = net.exits()
    row = rows[point]
    if not is_count_below(spot, len(row)):
        raise InvalidExit(spot)
    if len(row) == 1:
        raise LastExit()
    del row[spot]
    spots = list(setting)
    # Exits behind the one taken move up, so the one behind it is where it was itself.
    if spot < spots[point]:
        spots[point] -= 1
    spots[point] = spots[point] % len(row)
    return Net(net.ends, rows), tuple(spots), come


def told_of(yard, word, parts):
    """The answer to a command of this word that tells something of a yard."""
    net, setting, come = yard
    if word == "show":
        return lines_of(net_text(net))
    if word == "setting":
        return list_text(setting)
    if word == "come":
        return list_text(come)
    if word == "lost":
        return list_text(lost_points(net))
    if word == "trees":
        return str(many_trees(net))
    if word == "period":
        return str(period(net, parts[0]))
    if word == "flow":
        return list_text(fast_flow(net, setting, parts[0]))
    if word == "long":
        end, steps, _ = long_run(net, setting, parts[0])
        return f"{end} {steps}"
    if word == "time":
        time = passing_time(net, setting, parts[0], parts[1], parts[2])
        return "-" if time is None else str(time)
    check_point(net, parts[0])
    over, beneath = share(net, parts[1])[parts[0]]
    return f"{over}/{beneath}"
