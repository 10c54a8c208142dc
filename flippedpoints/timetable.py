"""Timetables of one train: how often and when a track is gone, and where the train stands."""

from flippedpoints.checks import check_leading, check_times, check_train
from flippedpoints.dealing import come_to_ends, deals_of, setting_behind, times_gone
from flippedpoints.fast import few_points_cut_of, one_train
from flippedpoints.journeys import Journey
from flippedpoints.knots import least_by_cut
from flippedpoints.nets import MOST_ENDS, check_track, point_of, target_of, track_at


def _check_passing(net, setting, begin, track):
    check_train(net, setting, begin)
    check_track(net, track)


def _whole_run(net, setting, begin):
    """A cut of the net, and the visits of the whole run."""
    check_leading(net)
    rows = net.exits()
    cut = few_points_cut_of(rows)
    return cut, least_by_cut(rows, setting, one_train(net.points, begin), cut)


def _passed(net, setting, visits, track):
    return times_gone(deals_of(net.exits(), setting), visits)[track]


def passed(net, setting, begin, track):
    """How often the track is gone in all."""
    _check_passing(net, setting, begin, track)
    _, visits = _whole_run(net, setting, begin)
    return _passed(net, setting, visits, track)


def passing_time(net, setting, begin, track, times):
    """The time of the track for this number; None if it has none."""
    _check_passing(net, setting, begin, track)
    check_times(times)
    cut, visits = _whole_run(net, setting, begin)
    if times > _passed(net, setting, visits, track):
        return None
    if times == 0:
        return 0
    return _gate_time(net, setting, begin, track, times, cut)


def last_passed(net, setting, begin, track):
    """The time of the track for how often it is gone in all; None if it is never gone."""
    _check_passing(net, setting, begin, track)
    cut, visits = _whole_run(net, setting, begin)
    times = _passed(net, setting, visits, track)
    return _gate_time(net, setting, begin, track, times, cut) if times > 0 else None


def _gate_time(net, setting, begin, track, times, cut):
    """The time of the track for a number from 1 on that it has."""
    rows = net.exits()
    point = point_of(net, track)
    target = target_of(net, track)
    rows[point][track - track_at(net, point, 0)] = -1 - MOST_ENDS
    starts = one_train(net.points, begin)
    # Each time but the last one the train goes on behind the track: another one begins there.
    if times > 1:
        starts[target] += times - 1
    return sum(least_by_cut(rows, setting, starts, cut))


def _behind(net, setting, begin, times):
    """Where the train stands behind so many steps, and how often it has left each point."""
    cut, whole = _whole_run(net, setting, begin)
    rows = net.exits()
    if times >= sum(whole):
        come = come_to_ends(deals_of(rows, setting), net.ends, whole)
        return -1 - come.index(1), whole
    journey = Journey(rows, setting, begin, cut, whole)
    journey.go(times)
    return journey.where, journey.visits


def passed_within(net, setting, begin, track, times):
    """How often the track is gone within so many steps."""
    _check_passing(net, setting, begin, track)
    check_times(times)
    _, visits = _behind(net, setting, begin, times)
    return _passed(net, setting, visits, track)


def where_at(net, setting, begin, times):
    """The target at which the train stands behind so many steps."""
    check_train(net, setting, begin)
    check_times(times)
    where, _ = _behind(net, setting, begin, times)
    return where


def track_gone_at(net, setting, begin, times):
    """The track that is gone by the step of this number; None if the train has arrived ahead of it."""
    check_train(net, setting, begin)
    check_times(times)
    where, visits = _behind(net, setting, begin, times)
    if where < 0:
        return None
    spots = setting_behind(net.exits(), setting, visits)
    return track_at(net, where, spots[where])
