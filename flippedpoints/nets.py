"""Nets of points, their settings, and which points lead where."""

from flippedpoints.basics import is_count_below, is_integer, is_row
from flippedpoints.errors import InvalidEnds, InvalidExit, InvalidExits, InvalidNet, InvalidPoint
from flippedpoints.errors import InvalidSequence, InvalidSetting, InvalidTarget, InvalidTrack, TooMany

MOST_ENDS = 6
MOST_POINTS = 24
MOST_EXITS = 6
MOST_TRACKS = 60
MOST_SETTINGS = 4096


class Net:
    """A net of tracks: how many ends it has, and for each point its row of exits."""

    def __init__(self, ends, exits):
        if not is_count_below(ends, MOST_ENDS + 1):
            raise InvalidEnds(ends)
        if not _are_exits(exits, ends):
            raise InvalidExits(exits)
        targets = [target for row in exits for target in row]
        if len(targets) > MOST_TRACKS:
            raise TooMany("tracks", MOST_TRACKS)
        self._ends = ends
        self._exits = tuple([tuple(row) for row in exits])
        self._targets = tuple(targets)

    @property
    def ends(self):
        """How many ends there are."""
        return self._ends

    @property
    def points(self):
        """How many points there are."""
        return len(self._exits)

    @property
    def many(self):
        """How many tracks there are."""
        return len(self._targets)

    def exits(self):
        """For each point the list of the targets of its exits."""
        return [list(row) for row in self._exits]

    def targets(self):
        """The targets by tracks."""
        return list(self._targets)

    def __eq__(self, other):
        return isinstance(other, Net) and self._ends == other._ends and self._exits == other._exits


def _is_target_of(value, ends, points):
    return is_integer(value) and -ends <= value < points


def _are_exits(value, ends):
    if not is_row(value) or not 1 <= len(value) <= MOST_POINTS:
        return False
    return all([_is_exit_row(row, ends, len(value)) for row in value])


def _is_exit_row(value, ends, points):
    if not is_row(value) or not 1 <= len(value) <= MOST_EXITS:
        return False
    return all([_is_target_of(target, ends, points) for target in value])


def is_point(net, value):
    """Whether any value is one of the net's points."""
    return is_count_below(value, net.points)


def is_target(net, value):
    """Whether any value is a target of the net: one of its points or of its ends."""
    return _is_target_of(value, net.ends, net.points)


def is_lot(net, value):
    """Whether any value is a rising list of points of the net, perhaps of none."""
    if not is_row(value) or not all([is_point(net, point) for point in value]):
        return False
    return all([value[at] < value[at + 1] for at in range(len(value) - 1)])


def check_net(net):
    """Raise InvalidNet unless it is a Net."""
    if not isinstance(net, Net):
        raise InvalidNet(net)


def check_setting(net, setting):
    """Raise InvalidSetting unless it is a setting of the net."""
    if not is_setting(net, setting):
        raise InvalidSetting(setting)


def check_point(net, point):
    """Raise InvalidPoint unless it is one of the net's points."""
    if not is_point(net, point):
        raise InvalidPoint(point)


def check_track(net, track):
    """Raise InvalidTrack unless it is the number of one of the net's tracks."""
    if not is_count_below(track, net.many):
        raise InvalidTrack(track)


def track_at(net, point, spot):
    """The number of the track that is the point's exit at this spot."""
    check_net(net)
    check_point(net, point)
    rows = net.exits()
    if not is_count_below(spot, len(rows[point])):
        raise InvalidExit(spot)
    return sum([len(row) for row in rows[:point]]) + spot


def point_of(net, track):
    """The point whose exit the track is."""
    check_net(net)
    check_track(net, track)
    owners = [point for point, row in enumerate(net.exits()) for _ in row]
    return owners[track]


def target_of(net, track):
    """Where the track leads."""
    check_net(net)
    check_track(net, track)
    return net.targets()[track]


def is_setting(net, value):
    """Whether any value is a setting of the net."""
    check_net(net)
    if not is_row(value) or len(value) != net.points:
        return False
    return all([is_count_below(spot, len(row)) for spot, row in zip(value, net.exits())])


def first_setting(net):
    """The setting by which each point's first exit is next."""
    check_net(net)
    return [0] * net.points


def many_settings(net):
    """How many settings the net has."""
    check_net(net)
    many = 1
    for row in net.exits():
        many *= len(row)
    return many


def check_few_settings(net):
    """Raise TooMany if the net has too many settings for looking at all of them."""
    if many_settings(net) > MOST_SETTINGS:
        raise TooMany("settings", MOST_SETTINGS)


def all_settings(net):
    """The sorted list of all settings, if they are few enough."""
    check_few_settings(net)
    found = [[]]
    for row in net.exits():
        found = [setting + [spot] for setting in found for spot in range(len(row))]
    return found


def last_exits(net, setting):
    """The targets of the points' last exits, those ahead of the next ones."""
    check_net(net)
    check_setting(net, setting)
    return [row[spot - 1] for spot, row in zip(setting, net.exits())]


def _points_to(net, goals):
    """The rising list of the points from which a row of tracks leads to one of the goals."""
    rows = net.exits()
    found = {}
    grown = True
    while grown:
        further = [point for point, row in enumerate(rows) if point not in found
                   and any([target in goals or target in found for target in row])]
        grown = len(further) > 0
        for point in further:
            found[point] = True
    return sorted(found)


def leads_to(net, target):
    """The rising list of the points from which a row of tracks leads to the target."""
    check_net(net)
    if not is_target(net, target):
        raise InvalidTarget(target)
    return _points_to(net, [target])


def points_to_ends(net):
    """The rising list of the points from which some row of tracks leads to some end."""
    return _points_to(net, [-1 - end for end in range(net.ends)])


def is_leading(net):
    """Whether from each point some row of tracks leads to some end."""
    check_net(net)
    return len(points_to_ends(net)) == net.points


def _is_sequence(net, value):
    if not is_row(value) or not all([is_point(net, point) for point in value]):
        return False
    return sorted(value) == list(range(net.points))


def renumbered(net, sequence):
    """The net that has as its point p what was the sequence's entry p."""
    check_net(net)
    if not _is_sequence(net, sequence):
        raise InvalidSequence(sequence)
    rows = net.exits()
    # Ends have no new number here, so they are left as they were.
    anew = {old: new for new, old in enumerate(sequence)}
    return Net(net.ends, [[anew.get(target, target) for target in rows[old]] for old in sequence])
