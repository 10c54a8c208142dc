"""Nets without ends that are gone round for ever: their turns, and the states that come again."""

from flippedpoints.checks import MOST_STEPS, check_times
from flippedpoints.errors import InvalidState, NotRound, TooMany
from flippedpoints.knots import knots_of
from flippedpoints.linear import exits_table, solution, turned
from flippedpoints.machine import is_state
from flippedpoints.nets import all_settings, check_net, last_exits
from flippedpoints.ratios import common_divisor


def is_round_net(net):
    """Whether the net has no ends, and from each point a row of tracks leads to each."""
    check_net(net)
    return net.ends == 0 and len(knots_of(net.exits())) == 1


def _check_round(net):
    if not is_round_net(net):
        raise NotRound()


def _check_state(net, state):
    if not is_state(net, state):
        raise InvalidState(state)


def is_ring_state(net, state):
    """Whether the state's last exits make just one ring, with the train on it."""
    _check_state(net, state)
    _check_round(net)
    where, setting = state
    return where in _only_ring(last_exits(net, setting))


def _only_ring(lasts):
    """The points of the ring that these last exits make; none if they make more than one."""
    begin = _far_on(lasts, 0)
    ring = [begin]
    point = lasts[begin]
    while point != begin:
        ring.append(point)
        point = lasts[point]
    return ring if all([_far_on(lasts, other) in ring for other in range(len(lasts))]) else []


def _far_on(lasts, begin):
    """Where last exits lead from the point in so many steps that it is on a ring."""
    point = begin
    for _ in lasts:
        point = lasts[point]
    return point


def _turns(net):
    rows = net.exits()
    table = turned(exits_table(rows))
    # All rows that fit are multiples of one, so the point 0 may be told first.
    inner = [row[1:] for row in table[1:]]
    parts, whole = solution(inner, [-row[0] for row in table[1:]])
    common = common_divisor([whole] + parts)
    return [part // common for part in [whole] + parts]


def turns(net):
    """How often each exit of each point is gone in a whole turn."""
    _check_round(net)
    return _turns(net)


def turn_visits(net):
    """How often each point is left in a whole turn."""
    return [many * len(row) for many, row in zip(turns(net), net.exits())]


def turn_length(net):
    """How many steps a whole turn has."""
    return sum(turn_visits(net))


def _step(rows, where, marks):
    """Where one step leads; the marks, a list, are turned."""
    spot = marks[where]
    marks[where] = (spot + 1) % len(rows[where])
    return rows[where][spot]


def _to_ring(net, state, most):
    """How many steps there are until a ring state, this, and whether it is one; of steps at most so many."""
    rows = net.exits()
    where, setting = state
    marks = list(setting)
    left = {}
    for steps in range(most + 1):
        # A ring without the train stays until it comes to a point of the ring. That point wasn't left before, as from
        # all that were left last exits lead to the train. So only such points are looked at.
        if where not in left and where in _only_ring([row[spot - 1] for row, spot in zip(rows, marks)]):
            return steps, (where, tuple(marks)), True
        if steps < most:
            left[where] = True
            where = _step(rows, where, marks)
    return most, (where, tuple(marks)), False


def settled(net, state):
    """How many steps there are until the first ring state, and this."""
    _check_state(net, state)
    _check_round(net)
    steps, later, found = _to_ring(net, state, MOST_STEPS)
    if not found:
        raise TooMany("steps", MOST_STEPS)
    return steps, later


def ahead(net, state, times):
    """The state behind so many steps."""
    _check_state(net, state)
    check_times(times)
    _check_round(net)
    steps, later, found = _to_ring(net, state, min(times, MOST_STEPS))
    # From a ring state whole turns bring it again, so only what is left beside them is gone.
    rest = (times - steps) % turn_length(net) if found else times - steps
    if steps + rest > MOST_STEPS:
        raise TooMany("steps", MOST_STEPS)
    where, setting = later
    marks = list(setting)
    rows = net.exits()
    for _ in range(rest):
        where = _step(rows, where, marks)
    return where, tuple(marks)


def all_ring_states(net):
    """The sorted list of all ring states."""
    _check_round(net)
    found = []
    for setting in all_settings(net):
        found += [(where, tuple(setting)) for where in _only_ring(last_exits(net, setting))]
    return sorted(found)
