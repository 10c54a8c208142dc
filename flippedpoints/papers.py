"""Papers of what becomes of one train, and of crowds in leading nets."""

from flippedpoints.checks import check_end, check_train
from flippedpoints.dealing import come_to_ends, deals_of
from flippedpoints.fast import fast_flow
from flippedpoints.lost import lost_points, one_closed


def arrive_paper(net, setting, begin, end):
    """The train's visits, if it comes to the end; None otherwise."""
    check_train(net, setting, begin)
    check_end(net, end)
    visits, where = one_closed(net, setting, begin)
    return visits if where == end else None


def never_paper(net, setting, begin):
    """The lost points and the least flow of the net closed at them; None if the train comes to an end."""
    check_train(net, setting, begin)
    visits, where = one_closed(net, setting, begin)
    return (lost_points(net), visits) if where == net.ends else None


def own_paper(net, setting, begin):
    """The train's visits; None if it comes to no end."""
    check_train(net, setting, begin)
    visits, where = one_closed(net, setting, begin)
    return visits if where < net.ends else None


def crowd_paper(net, setting, starts):
    """The least flow and how many have come by it to each end."""
    visits = fast_flow(net, setting, starts)
    return visits, come_to_ends(deals_of(net.exits(), setting), net.ends, visits)
