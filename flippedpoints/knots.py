"""Least flows by a cut, knot by knot: points lie in one knot if each of them leads to each other one."""

from flippedpoints.cutting import first_cut, less_needless
from flippedpoints.narrowing import Narrowing

FEW_POINTS = 4
# More lists than can have so few of twenty-four points.
FEW_TRIES = 20000


def few_points_cut(rows):
    """A cut of at most four points; None if each cut has more."""
    return first_cut(rows, FEW_POINTS, FEW_TRIES)


def least_by_cut(rows, setting, starts, lot):
    """The least flow of a leading net, by any cut of it."""
    # A track from a point to itself only makes the next one come later, so it may be left out till the end.
    straight = [[target for target in row if target != point] for point, row in enumerate(rows)]
    spots = [_straight_spot(row, point, spot) for point, (row, spot) in enumerate(zip(rows, setting))]
    waiting = list(starts)
    leavings = [0] * len(rows)
    for knot in knots_of(straight):
        for point, many in zip(knot, _left_in(knot, straight, spots, waiting, lot)):
            leavings[point] = many
            _deal(straight[point], spots[point], many, waiting)
    return [_with_loops(row, point, setting[point], leavings[point]) for point, row in enumerate(rows)]


def _straight_spot(row, point, spot):
    """The place of the next exit that is no loop, among those that are none."""
    outs = [at for at, target in enumerate(row) if target != point]
    return len([at for at in outs if at < spot]) % len(outs)


def _with_loops(row, point, spot, many):
    """How often the point is left until it is left so often by exits that are no loops."""
    if many == 0:
        return 0
    turned = row[spot:] + row[:spot]
    outs = [at for at, target in enumerate(turned) if target != point]
    turns, rest = divmod(many - 1, len(outs))
    return turns * len(row) + outs[rest] + 1


def _deal(row, spot, many, waiting):
    """Let so many trains go from a point to those that its exits lead to."""
    for at, target in enumerate(row):
        if target >= 0:
            waiting[target] += (many + len(row) - 1 - (at - spot) % len(row)) // len(row)


def knots_of(rows):
    """The knots, each one behind those that lead to it."""
    reached = _reached_masks(rows)
    knots = []
    seen = {}
    # Whoever leads to another knot reaches all that this one reaches, and more.
    for _, point in sorted([(-len(_points_of(mask, len(rows))), begin) for begin, mask in enumerate(reached)]):
        if point not in seen:
            knot = [goal for goal in _points_of(reached[point], len(rows)) if reached[goal] >> point & 1]
            knots.append(knot)
            for goal in knot:
                seen[goal] = True
    return knots


def _points_of(mask, points):
    """The points that are told by the bits."""
    return [point for point in range(points) if mask >> point & 1]


def _reached_masks(rows):
    """For each point the bits of those to which rows of tracks lead from it, and its own one."""
    reached = []
    for point, row in enumerate(rows):
        mask = 1 << point
        for target in row:
            if target >= 0:
                mask |= 1 << target
        reached.append(mask)
    for middle in range(len(rows)):
        for point in range(len(rows)):
            if reached[point] >> middle & 1:
                reached[point] |= reached[middle]
    return reached


def _left_in(knot, rows, spots, waiting, lot):
    """How often the points of the knot are left."""
    if len(knot) == 1:
        return [waiting[knot[0]]]
    places = {point: at for at, point in enumerate(knot)}
    inside = [[places.get(target, -1) for target in rows[point]] for point in knot]
    cut = [places[point] for point in lot if point in places]
    if len(cut) > FEW_POINTS:
        cut = few_points_cut(inside) or less_needless(inside, cut)
    begins = [waiting[point] for point in knot]
    return Narrowing(inside, [spots[point] for point in knot], begins, cut).least()
