"""Mends: what all settings make of a train, the fewest points to turn, and exits to swap, that it comes to an end."""

from flippedpoints.basics import is_count_below
from flippedpoints.checks import check_end, check_leading, check_train
from flippedpoints.cutting import less_needless
from flippedpoints.dealing import come_to_ends, deals_of
from flippedpoints.errors import InvalidExit, TooMany
from flippedpoints.fast import one_train
from flippedpoints.knots import few_points_cut, least_by_cut
from flippedpoints.lost import closed_rows, lost_points
from flippedpoints.nets import Net, all_settings, check_few_settings, check_net, check_point, many_settings

MOST_MENDS = 400


def _outcomes(net, begin):
    """For each setting, in their sorted sequence, the end to which the train comes and by how many steps.

    For none the end is told that would be behind all others."""
    rows = net.exits()
    weights = _weights(rows)
    known = {}
    told = []
    for first in range(many_settings(net)):
        number = first
        where = begin
        way = []
        while where >= 0 and (number, where) not in known:
            # A state that comes again before an end is known never ends.
            known[(number, where)] = (net.ends, 0)
            way.append((number, where))
            row = rows[where]
            spot = number // weights[where] % len(row)
            number += weights[where] * (1 if spot + 1 < len(row) else -spot)
            where = row[spot]
        end, steps = known[(number, where)] if where >= 0 else (-1 - where, 0)
        for state in reversed(list(way)):
            steps += 1
            known[state] = (end, steps)
        told.append(known[(first, begin)])
    return told


def _weights(rows):
    """By how much a setting's number among all, sorted, grows if a point's next exit is the one behind it."""
    found = []
    weight = 1
    for row in reversed(list(rows)):
        found = [weight] + found
        weight *= len(row)
    return found


def _check_begin(net, begin):
    check_net(net)
    check_point(net, begin)


def by_settings(net, begin):
    """How many settings bring the train to each end, and last how many to none."""
    _check_begin(net, begin)
    check_few_settings(net)
    counts = [0] * (net.ends + 1)
    for end, _ in _outcomes(net, begin):
        counts[end] += 1
    return counts


def longest(net, begin):
    """How many steps the longest run has, and the first setting that has it."""
    _check_begin(net, begin)
    check_leading(net)
    settings = all_settings(net)
    lengths = [steps for _, steps in _outcomes(net, begin)]
    most = max(lengths)
    return most, settings[lengths.index(most)]


def _apart(setting, other):
    """How many points have another next exit."""
    return len([True for one, two in zip(setting, other) if one != two])


def fewest_turned(net, setting, begin, end):
    """How many points are to be turned at least, and all settings with just so many; None if no setting will do."""
    check_train(net, setting, begin)
    check_end(net, end)
    settings = all_settings(net)
    found = [other for other, (where, _) in zip(settings, _outcomes(net, begin)) if where == end]
    if not found:
        return None
    fewest = min([_apart(setting, other) for other in found])
    mends = [other for other in found if _apart(setting, other) == fewest]
    if len(mends) > MOST_MENDS:
        raise TooMany("mends", MOST_MENDS)
    return fewest, mends


def _check_spot(net, point, spot):
    if not is_count_below(spot, len(net.exits()[point])):
        raise InvalidExit(spot)


def swapped_exits(net, point, spot, other):
    """The net with these two exits of the point swapped."""
    _check_begin(net, point)
    _check_spot(net, point, spot)
    _check_spot(net, point, other)
    rows = net.exits()
    row = rows[point]
    row[spot], row[other] = row[other], row[spot]
    return Net(net.ends, rows)


def better_swaps(net, setting, begin, end):
    """The sorted list of the swaps of exits with unlike targets by which the train comes to the end."""
    check_train(net, setting, begin)
    check_end(net, end)
    # No swap changes which points are lost, nor what is a cut.
    lot = lost_points(net)
    rows, spots = closed_rows(net, setting, lot)
    cut = few_points_cut(rows) or less_needless(rows, list(range(net.points)))
    found = []
    for point, spot, other in _unlike_exits(net):
        rows, _ = closed_rows(swapped_exits(net, point, spot, other), setting, lot)
        visits = least_by_cut(rows, spots, one_train(net.points, begin), cut)
        if come_to_ends(deals_of(rows, spots), net.ends + 1, visits)[end] == 1:
            found.append((point, spot, other))
    return found


def _unlike_exits(net):
    """The sorted list of the tuples (point, spot, other) of two exits with unlike targets, spot below other."""
    return [(point, spot, other) for point, row in enumerate(net.exits()) for spot in range(len(row))
            for other in range(spot + 1, len(row)) if row[spot] != row[other]]
