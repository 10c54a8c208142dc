"""The plain machine: states, steps and runs of one train, step by step."""

from flippedpoints.basics import is_integer, is_row
from flippedpoints.checks import MOST_STEPS, check_most, check_train
from flippedpoints.errors import Ended, InvalidState
from flippedpoints.nets import check_net, is_setting, is_target, point_of


def is_state(net, value):
    """Whether any value is a state of the net."""
    check_net(net)
    if not isinstance(value, tuple) or len(value) != 2:
        return False
    where, setting = value
    return is_target(net, where) and isinstance(setting, tuple) and is_setting(net, setting)


def stepped(net, state):
    """The state behind one step."""
    check_net(net)
    if not is_state(net, state):
        raise InvalidState(state)
    where, setting = state
    if where < 0:
        raise Ended()
    later, marks, _ = _follow(net, setting, where, 1)
    return later, tuple(marks)


def _follow(net, setting, begin, most):
    """Where the train is behind so many steps at most, the setting then, and the tracks gone."""
    rows = net.exits()
    firsts = [sum([len(row) for row in rows[:point]]) for point in range(len(rows))]
    marks = list(setting)
    where = begin
    tracks = []
    while where >= 0 and len(tracks) < most:
        spot = marks[where]
        tracks.append(firsts[where] + spot)
        marks[where] = (spot + 1) % len(rows[where])
        where = rows[where][spot]
    return where, marks, tracks


def _check_run(net, setting, begin, most):
    check_train(net, setting, begin)
    check_most(most, MOST_STEPS)


def ran(net, setting, begin, most):
    """The state behind as many steps of the run as most, or behind all of it, and how many steps these are."""
    _check_run(net, setting, begin, most)
    where, marks, tracks = _follow(net, setting, begin, most)
    return (where, tuple(marks)), len(tracks)


def gone_tracks(net, setting, begin, most):
    """The tracks of these steps, in their sequence."""
    _check_run(net, setting, begin, most)
    _, _, tracks = _follow(net, setting, begin, most)
    return tracks


def run_visits(net, setting, begin, most):
    """How often these steps leave each point."""
    _check_run(net, setting, begin, most)
    _, _, tracks = _follow(net, setting, begin, most)
    owners = [point_of(net, track) for track in range(net.many)]
    visits = [0] * net.points
    for track in tracks:
        visits[owners[track]] += 1
    return visits


def is_run(net, setting, begin, value):
    """Whether any value is a list of tracks that are gone one behind another from the first step of the run on."""
    check_train(net, setting, begin)
    # True equals 1, so kinds are looked at ahead of the comparison.
    if not is_row(value) or not all([is_integer(track) for track in value]):
        return False
    _, _, tracks = _follow(net, setting, begin, len(value))
    return tracks == list(value)
