"""Crowds of trains: their moves, in whatever sequence, and the three rules."""

from flippedpoints.basics import are_numbers, is_row
from flippedpoints.checks import MOST_STEPS, check_leading, check_most, check_trains
from flippedpoints.errors import BadSequence, InvalidCrowd, InvalidRule, NoTrain, TooMany
from flippedpoints.nets import check_net, check_point, is_point, is_setting

RULES = ("least", "greatest", "rounds")
MOST_CROWDS = 2000


def is_crowd(net, value):
    """Whether any value is a crowd of the net."""
    check_net(net)
    if not isinstance(value, tuple) or len(value) != 3:
        return False
    if not all([isinstance(part, tuple) for part in value]):
        return False
    waiting, setting, come = value
    return are_numbers(waiting, net.points) and is_setting(net, setting) and are_numbers(come, net.ends)


def _check_crowd(net, crowd):
    check_net(net)
    if not is_crowd(net, crowd):
        raise InvalidCrowd(crowd)


def crowd_of(net, setting, starts):
    """The crowd of the starts, from the setting."""
    check_trains(net, setting, starts)
    return tuple(starts), tuple(setting), (0,) * net.ends


def is_empty(net, crowd):
    """Whether no train waits."""
    _check_crowd(net, crowd)
    waiting, _, _ = crowd
    return not _waiting_points(waiting)


def _waiting_points(waiting):
    return [point for point, many in enumerate(waiting) if many > 0]


def moves(net, crowd):
    """The rising list of the points that can be moved."""
    _check_crowd(net, crowd)
    waiting, _, _ = crowd
    return _waiting_points(waiting)


def moved(net, crowd, point):
    """The crowd behind the move of this point."""
    _check_crowd(net, crowd)
    check_point(net, point)
    waiting, _, _ = crowd
    if waiting[point] == 0:
        raise NoTrain(point)
    return _behind_move(net.exits(), crowd, point)


def _behind_move(rows, crowd, point):
    parts = _opened(crowd)
    _move(rows, parts, point)
    return _shut(parts)


def _opened(crowd):
    """The crowd's three parts as new lists, for _move."""
    return [list(part) for part in crowd]


def _shut(parts):
    return tuple([tuple(part) for part in parts])


def _move(rows, parts, point):
    """Move the point, in these lists."""
    waiting, setting, come = parts
    spot = setting[point]
    target = rows[point][spot]
    setting[point] = (spot + 1) % len(rows[point])
    waiting[point] -= 1
    if target < 0:
        come[-1 - target] += 1
    else:
        waiting[target] += 1


def by_sequence(net, crowd, sequence):
    """The crowd behind the sequence."""
    _check_crowd(net, crowd)
    if not is_row(sequence):
        raise BadSequence(None)
    rows = net.exits()
    parts = _opened(crowd)
    for at, point in enumerate(sequence):
        if not is_point(net, point) or parts[0][point] == 0:
            raise BadSequence(at)
        _move(rows, parts, point)
    return _shut(parts)


def _next_point(waiting, rule, last):
    """The point that the rule moves next, behind the last one moved; None if no train waits."""
    points = _waiting_points(waiting)
    if not points:
        return None
    if rule == "greatest":
        return points[-1]
    if rule == "rounds":
        points = [point for point in points if point > last] + points
    return points[0]


def _finish(net, crowd, rule, most):
    """The empty crowd that the rule comes to, and how often it moves each point."""
    _check_crowd(net, crowd)
    if not isinstance(rule, str) or rule not in RULES:
        raise InvalidRule(rule)
    check_most(most, MOST_STEPS)
    rows = net.exits()
    parts = _opened(crowd)
    visits = [0] * net.points
    left = most
    point = _next_point(parts[0], rule, -1)
    while point is not None:
        if left == 0:
            raise TooMany("moves", most)
        left -= 1
        _move(rows, parts, point)
        visits[point] += 1
        point = _next_point(parts[0], rule, point)
    return _shut(parts), visits


def finished(net, crowd, rule, most):
    """The empty crowd that the rule comes to, and of how many moves."""
    last, visits = _finish(net, crowd, rule, most)
    return last, sum(visits)


def visits_by(net, crowd, rule, most):
    """How often each point is moved on the rule's way to the empty crowd."""
    _, visits = _finish(net, crowd, rule, most)
    return visits


def all_behind(net, crowd):
    """The sorted list of all crowds that the crowd leads to."""
    _check_crowd(net, crowd)
    check_leading(net)
    rows = net.exits()
    first = _shut(_opened(crowd))
    seen = {first: True}
    queue = [first]
    at = 0
    while at < len(queue):
        now = queue[at]
        at += 1
        for point in _waiting_points(now[0]):
            later = _behind_move(rows, now, point)
            if later not in seen:
                seen[later] = True
                queue.append(later)
        if len(queue) > MOST_CROWDS:
            raise TooMany("crowds", MOST_CROWDS)
    return sorted(queue)


def all_finished(net, crowd):
    """Of all crowds that the crowd leads to, the empty ones."""
    return [later for later in all_behind(net, crowd) if not _waiting_points(later[0])]
