"""Pieces put into one another, and looped into themselves."""

from flippedpoints.basics import is_count_below
from flippedpoints.checks import check_end
from flippedpoints.errors import InvalidEntrance, TooMany
from flippedpoints.nets import MOST_ENDS, MOST_POINTS, MOST_TRACKS, Net
from flippedpoints.pieces import MOST_ENTRANCES, Piece, check_piece


def _check_entrance(piece, entrance):
    if not is_count_below(entrance, len(piece.entrances())):
        raise InvalidEntrance(entrance)


def _check_most(what, many, limit):
    if many > limit:
        raise TooMany(what, limit)


def _joined_to(rows, end, point):
    """The rows of exits with this end made the point, ends behind it told anew."""
    return [[_told_anew(target, end, point) for target in row] for row in rows]


def _told_anew(target, end, point):
    if target == -1 - end:
        return point
    return target + 1 if target < -1 - end else target


def _moved_on(rows, points, ends):
    """The rows of exits behind so many other points and ends."""
    return [[target + points if target >= 0 else target - ends for target in row] for row in rows]


def plugged(piece, end, other, entrance):
    """The piece plugged with this end into this entrance of the other one."""
    check_piece(piece)
    check_end(piece.net(), end)
    check_piece(other)
    _check_entrance(other, entrance)
    one = piece.net()
    two = other.net()
    doors = other.entrances()
    ends = one.ends - 1 + two.ends
    many = len(piece.entrances()) + len(doors) - 1
    _check_most("points", one.points + two.points, MOST_POINTS)
    _check_most("tracks", one.many + two.many, MOST_TRACKS)
    _check_most("ends", ends, MOST_ENDS)
    _check_most("entrances", many, MOST_ENTRANCES)
    rows = _joined_to(one.exits(), end, one.points + doors[entrance])
    rows += _moved_on(two.exits(), one.points, one.ends - 1)
    others = [one.points + door for at, door in enumerate(doors) if at != entrance]
    return Piece(Net(ends, rows), piece.setting() + other.setting(), piece.entrances() + others)


def looped(piece, end, entrance):
    """The piece looped with this end to this entrance."""
    check_piece(piece)
    net = piece.net()
    check_end(net, end)
    _check_entrance(piece, entrance)
    doors = piece.entrances()
    rows = _joined_to(net.exits(), end, doors[entrance])
    return Piece(Net(net.ends - 1, rows), piece.setting(), doors)
