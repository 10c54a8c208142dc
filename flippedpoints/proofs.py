"""Papers of claims about flows and pieces, and those of trains together with their ends: made and judged."""

from flippedpoints.basics import are_numbers, is_count, is_count_below, is_row
from flippedpoints.dealing import last_targets
from flippedpoints.errors import TooMany
from flippedpoints.judges import is_arrive_paper, is_never_paper
from flippedpoints.lost import entered
from flippedpoints.nets import is_setting
from flippedpoints.papers import never_paper, own_paper
from flippedpoints.passages import walked
from flippedpoints.pieces import MOST_PAIRS, passage_of, settings_of

MOST_PAPER_PAIRS = 400


def fate_paper(net, setting, begin):
    """The end to which a train comes and an arrive paper, or a never paper."""
    paper = never_paper(net, setting, begin)
    if paper is not None:
        return paper
    _, end = entered(net, setting, begin)
    return end, own_paper(net, setting, begin)


def is_arrival(net, setting, begin, value):
    """Whether any value is a tuple of an end and an arrive paper to it."""
    if not isinstance(value, tuple) or len(value) != 2:
        return False
    end, visits = value
    return is_count_below(end, net.ends) and is_arrive_paper(net, setting, begin, end, visits)


def is_miss(net, setting, begin, end, value):
    """Whether any value is a never paper, or a tuple of another end and an arrive paper to it."""
    if is_never_paper(net, setting, begin, value):
        return True
    return is_arrival(net, setting, begin, value) and value[0] != end


def ranks(net, setting, visits):
    """The ranks of a flow that has no ring."""
    lasts = last_targets(net.exits(), setting, visits)
    found = []
    for begin in range(net.points):
        rank = net.points
        target = lasts[begin]
        while target is not None and target >= 0:
            rank -= 1
            target = lasts[target]
        found.append(rank)
    return found


def are_ranks(net, setting, visits, value):
    """Whether any value is a list of ranks of the flow."""
    if not is_row(value) or len(value) != net.points or not all([is_count(rank) for rank in value]):
        return False
    lasts = last_targets(net.exits(), setting, visits)
    # By a flow each point to which a track is gone is visited, too.
    ahead = [point for point, target in enumerate(lasts) if target is not None and target >= 0]
    return all([value[point] < value[lasts[point]] for point in ahead])


def pairs(piece, other):
    """The pairs of two pieces that are alike."""
    seen, _ = walked(passage_of(piece), passage_of(other), settings_of(piece, other), MOST_PAIRS)
    if len(seen) > MOST_PAPER_PAIRS:
        raise TooMany("pairs", MOST_PAPER_PAIRS)
    return seen


def are_pairs(piece, other, value):
    """Whether any value is a list of pairs of the pieces."""
    one = passage_of(piece)
    two = passage_of(other)
    if not is_row(value) or len(value) > MOST_PAPER_PAIRS:
        return False
    if not all([_is_pair(piece.net(), other.net(), pair) for pair in value]):
        return False
    if not all([value[at] < value[at + 1] for at in range(len(value) - 1)]):
        return False
    known = {pair: True for pair in value}
    if settings_of(piece, other) not in known:
        return False
    return all([_leads_on(one.outcomes(setting), two.outcomes(marks), known) for setting, marks in value])


def _is_pair(net, other, value):
    if not isinstance(value, tuple) or len(value) != 2:
        return False
    setting, marks = value
    if not isinstance(setting, tuple) or not isinstance(marks, tuple):
        return False
    return is_setting(net, setting) and is_setting(other, marks)


def _leads_on(ones, twos, known):
    """Whether trains by the same entrances come to the same ends, and what is behind them is known."""
    both = [(end, goal, (behind, further)) for (end, behind), (goal, further) in zip(ones, twos)]
    return all([end == goal and pair in known for end, goal, pair in both])


def are_parting(piece, other, value):
    """Whether any value is inputs by which the pieces are parted."""
    # Nothing may be told of the value if nothing can be told of one of the pieces.
    passage_of(piece)
    passage_of(other)
    if not are_numbers(value, len(piece.entrances())):
        return False
    return piece.outputs(value) != other.outputs(value)
