"""Texts of things: nets, pieces, visits, states and never papers, written and read."""

from flippedpoints.basics import is_count_below, is_integer, is_number, is_row
from flippedpoints.errors import InvalidSort, InvalidThing, LimitError, StateError, TrackError, UnreadText
from flippedpoints.nets import MOST_ENDS, MOST_EXITS, MOST_POINTS, Net
from flippedpoints.pieces import Piece
from flippedpoints.signs import built, check_signs, written_value

SORTS = ("net", "piece", "visits", "state", "never")


def _check_sort(sort):
    if not isinstance(sort, str) or sort not in SORTS:
        raise InvalidSort(sort)


def is_of_sort(sort, value):
    """Whether any value is of the sort."""
    _check_sort(sort)
    if sort == "net":
        return isinstance(value, Net)
    if sort == "piece":
        return isinstance(value, Piece)
    if sort == "visits":
        return _are_visits(value)
    if sort == "state":
        return _is_state(value)
    return _is_never(value)


def _are_visits(value):
    return is_row(value) and 1 <= len(value) <= MOST_POINTS and all([is_number(many) for many in value])


def _is_state(value):
    if not isinstance(value, tuple) or len(value) != 2:
        return False
    where, setting = value
    if not is_integer(where) or not -MOST_ENDS <= where < MOST_POINTS:
        return False
    if not isinstance(setting, tuple) or not 1 <= len(setting) <= MOST_POINTS:
        return False
    return all([is_count_below(spot, MOST_EXITS) for spot in setting])


def _is_never(value):
    if not isinstance(value, tuple) or len(value) != 2:
        return False
    lot, visits = value
    if not is_row(lot) or len(lot) > MOST_POINTS:
        return False
    return all([is_count_below(point, MOST_POINTS) for point in lot]) and _are_visits(visits)


def written(sort, value):
    """The thing, written."""
    if not is_of_sort(sort, value):
        raise InvalidThing(value)
    return written_value(_plain(sort, value))


def _plain(sort, thing):
    """The lists, tuples and INTEGERS by which a thing of the sort is written."""
    if sort == "net":
        return thing.ends, thing.exits()
    if sort == "piece":
        return _plain("net", thing.net()), thing.setting(), thing.entrances()
    if sort == "visits":
        return list(thing)
    if sort == "never":
        lot, visits = thing
        return list(lot), list(visits)
    return thing


def read(sort, text):
    """The thing of the sort whose written form the text is."""
    _check_sort(sort)
    if not isinstance(text, str):
        raise UnreadText(None)
    check_signs(text)
    thing = _thing_of(sort, built(text))
    # A thing takes tuples for lists, but its written form has lists.
    if not is_of_sort(sort, thing) or written(sort, thing) != text:
        raise UnreadText(None)
    return thing


def _thing_of(sort, value):
    """What the value tells of this sort; None if nothing."""
    if sort == "net":
        return _net_of(value)
    if sort == "piece":
        return _piece_of(value)
    return value


def _net_of(value):
    if not isinstance(value, tuple) or len(value) != 2:
        return None
    ends, exits = value
    try:
        return Net(ends, exits)
    except (TrackError, LimitError):
        return None


def _piece_of(value):
    if not isinstance(value, tuple) or len(value) != 3:
        return None
    plain, setting, entrances = value
    try:
        return Piece(_net_of(plain), setting, entrances)
    except (TrackError, StateError):
        return None
