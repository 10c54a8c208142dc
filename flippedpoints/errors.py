"""The errors of the package, those of all stages."""


class TrackError(ValueError):
    """Something that was passed isn't what was asked for."""


class InvalidNet(TrackError):
    """The value is no Net."""
    def __init__(self, value):
        self.value = value


class InvalidSetting(TrackError):
    """The value is no setting of the net."""
    def __init__(self, value):
        self.value = value


class InvalidPoint(TrackError):
    """The value is none of the net's points."""
    def __init__(self, value):
        self.value = value


class InvalidEnd(TrackError):
    """The value is none of the net's ends."""
    def __init__(self, value):
        self.value = value


class InvalidTrack(TrackError):
    """The value is the number of none of the net's tracks."""
    def __init__(self, value):
        self.value = value


class InvalidStarts(TrackError):
    """The value is no list of a NUMBER for each point."""
    def __init__(self, value):
        self.value = value


class InvalidVisits(TrackError):
    """The value is no list of a NUMBER for each point."""
    def __init__(self, value):
        self.value = value


class InvalidLot(TrackError):
    """The value is no rising list of points of the net."""
    def __init__(self, value):
        self.value = value


class InvalidTimes(TrackError):
    """The value is no NUMBER."""
    def __init__(self, value):
        self.value = value


class InvalidMost(TrackError):
    """The value is no COUNT, or above the bound."""
    def __init__(self, value):
        self.value = value


class InvalidPiece(TrackError):
    """The value is no Piece."""
    def __init__(self, value):
        self.value = value


class BadSequence(TrackError):
    """A point can't be moved, or the whole is no list (None)."""
    def __init__(self, position):
        self.position = position


class BadText(TrackError):
    """The line of a text is wrong, or the whole is no string (None)."""
    def __init__(self, line):
        self.line = line


class InvalidClaim(TrackError):
    """The value is no claim."""
    def __init__(self, value):
        self.value = value


class InvalidCommand(TrackError):
    """The value is no command."""
    def __init__(self, value):
        self.value = value


class InvalidCrowd(TrackError):
    """The value is no crowd of the net."""
    def __init__(self, value):
        self.value = value


class InvalidDeeds(TrackError):
    """A line is no deed, or the whole is no list (None)."""
    def __init__(self, position):
        self.position = position


class InvalidEnds(TrackError):
    """The value is no COUNT of ends of a net."""
    def __init__(self, value):
        self.value = value


class InvalidEntrance(TrackError):
    """The value is none of the piece's entrances."""
    def __init__(self, value):
        self.value = value


class InvalidEntrances(TrackError):
    """The value is no list of unlike points."""
    def __init__(self, value):
        self.value = value


class InvalidExit(TrackError):
    """The value is none of the point's exits."""
    def __init__(self, value):
        self.value = value


class InvalidExits(TrackError):
    """The value is no list of the exits of points."""
    def __init__(self, value):
        self.value = value


class InvalidInputs(TrackError):
    """The value is no list of a NUMBER for each entrance."""
    def __init__(self, value):
        self.value = value


class InvalidPaper(TrackError):
    """The value is no paper of the claim or of its contrary."""
    def __init__(self, value):
        self.value = value


class InvalidRing(TrackError):
    """The value is no ring of the visits."""
    def __init__(self, value):
        self.value = value


class InvalidRule(TrackError):
    """The value is none of the words for rules."""
    def __init__(self, value):
        self.value = value


class InvalidSequence(TrackError):
    """The value is no sequence of the net."""
    def __init__(self, value):
        self.value = value


class InvalidSort(TrackError):
    """The value is none of the words for sorts."""
    def __init__(self, value):
        self.value = value


class InvalidState(TrackError):
    """The value is no state of the net."""
    def __init__(self, value):
        self.value = value


class InvalidTarget(TrackError):
    """The value is no target of the net."""
    def __init__(self, value):
        self.value = value


class InvalidThing(TrackError):
    """The value is no thing of the sort."""
    def __init__(self, value):
        self.value = value


class UnreadText(TrackError):
    """A string can't be read on there, or is none (None)."""
    def __init__(self, position):
        self.position = position


class MissingError(LookupError):
    """Nothing is kept under what was passed."""


class UnknownLabel(MissingError):
    """No claim is noted under the label."""
    def __init__(self, value):
        self.value = value


class UnknownName(MissingError):
    """Nothing is kept under the name."""
    def __init__(self, value):
        self.value = value


class StateError(RuntimeError):
    """What was asked can't be done with what was passed."""


class NotLeading(StateError):
    """The net has a lost point."""


class CommandFailed(StateError):
    """The command at this position failed."""
    def __init__(self, position):
        self.position = position


class Ended(StateError):
    """The train stands at an end."""


class FullPoint(StateError):
    """The point has six exits."""


class LabelTaken(StateError):
    """A claim is noted under the label."""
    def __init__(self, label):
        self.label = label


class LastExit(StateError):
    """The point has one exit only."""


class NameTaken(StateError):
    """Something is kept under the name."""
    def __init__(self, name):
        self.name = name


class NoTrain(StateError):
    """No train waits at the point."""
    def __init__(self, point):
        self.point = point


class NotCut(StateError):
    """The lot is no cut."""


class NotFlow(StateError):
    """The visits are no flow."""


class NotRound(StateError):
    """The net isn't round."""


class NotTree(StateError):
    """The setting is no tree."""


class NothingToRedo(StateError):
    """No deed was taken back last."""


class NothingToUndo(StateError):
    """There is no deed to be taken back."""


class UnlikeShapes(StateError):
    """The pieces haven't as many entrances and ends."""


class LimitError(ArithmeticError):
    """More is needed than is allowed."""


class TooMany(LimitError):
    """There are more of these than the limit."""
    def __init__(self, what, limit):
        self.what = what
        self.limit = limit
