"""Pieces of nets: what comes out of them, and whether one can stand for another."""

from flippedpoints.basics import are_numbers, is_row
from flippedpoints.checks import check_leading
from flippedpoints.dealing import come_to_ends, deals_of, setting_behind
from flippedpoints.errors import InvalidEntrances, InvalidInputs, InvalidPiece, UnlikeShapes
from flippedpoints.fast import few_points_cut_of
from flippedpoints.knots import least_by_cut
from flippedpoints.nets import check_net, check_setting, is_point
from flippedpoints.passages import Passage, walked

MOST_ENTRANCES = 4
MOST_PAIRS = 4000


class Piece:
    """A leading net with a setting, and a row of entrances."""

    def __init__(self, net, setting, entrances):
        check_net(net)
        check_setting(net, setting)
        if not _are_entrances(net, entrances):
            raise InvalidEntrances(entrances)
        check_leading(net)
        self._net = net
        self._setting = tuple(setting)
        self._entrances = tuple(entrances)

    def net(self):
        """The net."""
        return self._net

    def setting(self):
        """The setting."""
        return list(self._setting)

    def entrances(self):
        """The points that are entrances."""
        return list(self._entrances)

    def outputs(self, inputs):
        """How many come to each end, of so many trains at each entrance."""
        visits = self._visits(inputs)
        return come_to_ends(deals_of(self._net.exits(), self._setting), self._net.ends, visits)

    def behind(self, inputs):
        """The piece behind these trains."""
        visits = self._visits(inputs)
        spots = setting_behind(self._net.exits(), self._setting, visits)
        return Piece(self._net, spots, self._entrances)

    def _visits(self, inputs):
        if not are_numbers(inputs, len(self._entrances)):
            raise InvalidInputs(inputs)
        starts = [0] * self._net.points
        for point, many in zip(self._entrances, inputs):
            starts[point] = many
        rows = self._net.exits()
        return least_by_cut(rows, self._setting, starts, few_points_cut_of(rows))

    def __eq__(self, other):
        return (isinstance(other, Piece) and self._net == other._net and self._setting == other._setting
                and self._entrances == other._entrances)


def _are_entrances(net, value):
    if not is_row(value) or not 1 <= len(value) <= MOST_ENTRANCES:
        return False
    return all([is_point(net, point) for point in value]) and len(set(value)) == len(value)


def check_piece(piece):
    """Raise InvalidPiece unless it is a Piece."""
    if not isinstance(piece, Piece):
        raise InvalidPiece(piece)


def have_like_shapes(piece, other):
    """Whether there are as many entrances and ends."""
    return len(piece.entrances()) == len(other.entrances()) and piece.net().ends == other.net().ends


def passage_of(piece):
    """What one train makes of the piece; raises TooMany if nothing can be told of it."""
    return Passage(piece.net().exits(), piece.entrances())


def settings_of(piece, other):
    """The pair of both settings."""
    return tuple(piece.setting()), tuple(other.setting())


def _parted(piece, other):
    check_piece(piece)
    check_piece(other)
    if not have_like_shapes(piece, other):
        raise UnlikeShapes()
    _, inputs = walked(passage_of(piece), passage_of(other), settings_of(piece, other), MOST_PAIRS)
    return inputs


def alike(piece, other):
    """Whether the outputs of both pieces are equal for all inputs."""
    return _parted(piece, other) is None


def parting(piece, other):
    """The least inputs for which the outputs aren't equal; None if the pieces are alike."""
    return _parted(piece, other)
