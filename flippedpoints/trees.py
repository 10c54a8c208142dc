"""Settings whose last exits lead to ends from all points: how many, and how trains bring them again."""

from flippedpoints.checks import check_leading, check_times, check_train
from flippedpoints.dealing import setting_behind
from flippedpoints.errors import NotTree
from flippedpoints.fast import fast_flow
from flippedpoints.linear import determinant, exits_table
from flippedpoints.nets import all_settings, check_net, check_point, last_exits
from flippedpoints.ratios import common_multiple, fraction
from flippedpoints.shares import gone_parts


def is_tree(net, setting):
    """Whether from no point last exits lead to it again."""
    lasts = last_exits(net, setting)
    return all([_leads_out(lasts, point) for point in range(net.points)])


def _leads_out(lasts, begin):
    """Whether last exits lead from the point to an end: in as many steps as there are points, if at all."""
    point = begin
    for _ in lasts:
        if point >= 0:
            point = lasts[point]
    return point < 0


def all_trees(net):
    """The sorted list of all trees."""
    check_net(net)
    return [setting for setting in all_settings(net) if is_tree(net, setting)]


def many_trees(net):
    """How many trees there are."""
    check_net(net)
    return determinant(exits_table(net.exits()))


def period(net, begin):
    """Behind how many trains from the point each tree comes again for the first time."""
    check_net(net)
    check_point(net, begin)
    check_leading(net)
    parts, whole = gone_parts(net, begin)
    return common_multiple([fraction(part, whole)[1] for part in parts])


def _sent(net, setting, begin, times):
    """The setting behind so many trains from the point."""
    starts = [times if point == begin else 0 for point in range(net.points)]
    return setting_behind(net.exits(), setting, fast_flow(net, setting, starts))


def sent_times(net, setting, begin, times):
    """The setting behind so many trains sent from the point."""
    check_train(net, setting, begin)
    check_times(times)
    return _sent(net, setting, begin, times)


def sent_back(net, setting, begin):
    """The tree from which one train makes this setting."""
    check_train(net, setting, begin)
    check_leading(net)
    if not is_tree(net, setting):
        raise NotTree()
    # Behind a whole period the tree stands again, so behind one train less the one ahead of it.
    return _sent(net, setting, begin, period(net, begin) - 1)


def tree_behind(net, setting):
    """Behind how few rounds a tree stands, and this tree."""
    # If a setting is a tree, the net is leading.
    if is_tree(net, setting):
        return 0, list(setting)
    # A round visits each point, and no ring of last exits is left then: so one is enough.
    return 1, setting_behind(net.exits(), setting, fast_flow(net, setting, [1] * net.points))
