"""Claims about trains, flows and pieces, their contraries, and the papers of both."""

from flippedpoints.basics import are_numbers, is_count_below, is_row
from flippedpoints.errors import InvalidClaim
from flippedpoints.judges import is_arrive_paper, is_never_paper
from flippedpoints.least import is_least_flow
from flippedpoints.nets import Net, is_leading, is_point, is_setting
from flippedpoints.papers import arrive_paper, own_paper
from flippedpoints.pieces import Piece, alike, have_like_shapes, parting
from flippedpoints.proofs import are_pairs, are_parting, are_ranks, fate_paper, is_arrival, is_miss, pairs, ranks
from flippedpoints.visits import is_flow, is_ring, ring_of_visits

WORDS = (("arrives", "misses"), ("ends", "never"), ("least", "more"), ("alike", "parted"))


def words():
    """The list of the tuples (word, its contrary)."""
    return list(WORDS)


def is_claim(value):
    """Whether any value is a claim."""
    if not isinstance(value, tuple) or len(value) == 0:
        return False
    word, *things = value
    if word in ("arrives", "misses"):
        return len(things) == 4 and _is_train(things[:3]) and is_count_below(things[3], things[0].ends)
    if word in ("ends", "never"):
        return len(things) == 3 and _is_train(things)
    if word in ("least", "more"):
        return len(things) == 4 and _has_flow(things)
    return word in ("alike", "parted") and len(things) == 2 and _are_like_pieces(things)


def _is_train(things):
    net, setting, begin = things
    return isinstance(net, Net) and is_setting(net, setting) and is_point(net, begin)


def _has_flow(things):
    net, setting, starts, visits = things
    if not isinstance(net, Net) or not is_leading(net) or not is_setting(net, setting):
        return False
    return are_numbers(starts, net.points) and is_flow(net, setting, starts, visits)


def _are_like_pieces(things):
    piece, other = things
    return isinstance(piece, Piece) and isinstance(other, Piece) and have_like_shapes(piece, other)


def _check_claim(claim):
    if not is_claim(claim):
        raise InvalidClaim(claim)


def contrary(claim):
    """The contrary of the claim."""
    _check_claim(claim)
    word, *things = claim
    others = {}
    for one, other in WORDS:
        others[one] = other
        others[other] = one
    return (others[word],) + tuple([list(thing) if is_row(thing) else thing for thing in things])


def is_true(claim):
    """Whether the claim is true."""
    _check_claim(claim)
    word, *things = claim
    if word in ("misses", "never", "more", "parted"):
        return not is_true(contrary(claim))
    return _holds(word, things)


def _holds(word, things):
    """Whether the claim of the first word of a row and these things is true."""
    if word == "arrives":
        net, setting, begin, end = things
        return arrive_paper(net, setting, begin, end) is not None
    if word == "ends":
        net, setting, begin = things
        return own_paper(net, setting, begin) is not None
    if word == "least":
        net, setting, starts, visits = things
        return is_least_flow(net, setting, starts, visits)
    piece, other = things
    return alike(piece, other)


def paper_of(claim):
    """A paper of the claim; None if it isn't true."""
    if not is_true(claim):
        return None
    word, *things = claim
    if word == "arrives":
        net, setting, begin, end = things
        return arrive_paper(net, setting, begin, end)
    if word in ("misses", "ends", "never"):
        net, setting, begin = things[:3]
        return fate_paper(net, setting, begin)
    if word in ("least", "more"):
        net, setting, _, visits = things
        return ranks(net, setting, visits) if word == "least" else ring_of_visits(net, setting, visits)
    piece, other = things
    return pairs(piece, other) if word == "alike" else parting(piece, other)


def is_paper_of(claim, value):
    """Whether any value is a paper of the claim."""
    _check_claim(claim)
    word, *things = claim
    if word in ("arrives", "misses", "ends", "never"):
        return _is_paper_of_train(word, things, value)
    if word in ("least", "more"):
        net, setting, _, visits = things
        return are_ranks(net, setting, visits, value) if word == "least" else is_ring(net, setting, visits, value)
    piece, other = things
    return are_pairs(piece, other, value) if word == "alike" else are_parting(piece, other, value)


def _is_paper_of_train(word, things, value):
    net, setting, begin = things[:3]
    if word == "arrives":
        return is_arrive_paper(net, setting, begin, things[3], value)
    if word == "misses":
        return is_miss(net, setting, begin, things[3], value)
    return is_arrival(net, setting, begin, value) if word == "ends" else is_never_paper(net, setting, begin, value)
