"""Trees, one train, the period, rounds to trees [6b]."""

import itertools
import random
import unittest

from flippedpoints.cuts import fewest_cut, good_cut
from flippedpoints.errors import InvalidNet, InvalidPoint, InvalidSetting, InvalidTimes, NotLeading, NotTree, TooMany
from flippedpoints.nets import Net, is_leading, many_settings
from flippedpoints.trees import all_trees, is_tree, many_trees, period, sent_back, sent_times, tree_behind
from tests.support import HUGE, PAIR, Call, CallTests
from tests.support import big_net, one_at, plain_run, plain_visits, random_nets
from tests.support import wrong_indexes, wrong_nets, wrong_settings, wrong_times

TWO = Net(2, [[1, -1], [0, -2]])
NETS = (InvalidNet, wrong_nets())
SETTINGS = (InvalidSetting, wrong_settings(TWO, [0, 1]))
BEGINS = (InvalidPoint, wrong_indexes(2) + [-2])
LOST = Net(1, [[1, -1], [1]])
MOST = HUGE - 1


def settings_of(net):
    return [list(setting) for setting in itertools.product(*[range(len(row)) for row in net.exits()])]


def plain_is_tree(exits, setting):
    for begin in range(len(exits)):
        point, seen = begin, set()
        while point >= 0 and point not in seen:
            seen.add(point)
            # The exit ahead of the next one; ahead of the first one the last one.
            point = exits[point][setting[point] - 1 if setting[point] > 0 else len(exits[point]) - 1]
        if point >= 0:
            return False
    return True


def plain_sent(exits, setting, begin):
    """The setting behind one train."""
    _, marks, _ = plain_run(exits, setting, begin, 10 ** 6)
    return list(marks)


class TreeCalls(CallTests, unittest.TestCase):

    def calls(self):
        own, wrong = {"net": TWO, "setting": [0, 1]}, {"net": NETS, "setting": SETTINGS}
        return [
            Call(is_tree, own, wrong),
            Call(all_trees, {"net": TWO}, {"net": NETS}),
            Call(many_trees, {"net": TWO}, {"net": NETS}),
            Call(period, {"net": TWO, "begin": 1}, {"net": NETS, "begin": BEGINS}),
            Call(sent_times, {**own, "begin": 1, "times": 5}, {**wrong, "begin": BEGINS, "times": (InvalidTimes, wrong_times())}),
            Call(sent_back, {**own, "begin": 1}, {**wrong, "begin": BEGINS}),
            Call(tree_behind, own, wrong),
        ]

    def assert_raises(self, error, function, *arguments):
        with self.assertRaises(error) as caught:
            function(*arguments)
        self.assertIs(caught.exception.__class__, error)
        if error is TooMany:
            self.assertEqual([caught.exception.what, caught.exception.limit], ["cut", 4])

    def test_what_comes_behind_the_parameters(self):
        self.assert_raises(InvalidPoint, period, LOST, 2)
        self.assert_raises(InvalidTimes, sent_times, LOST, [0, 0], 0, HUGE)
        self.assert_raises(InvalidPoint, sent_back, LOST, [0, 0], 2)
        for net in (LOST, Net(0, [[0]]), Net(1, [[at] for at in range(6)]), Net(1, [[-1]] + [[at, 0] for at in range(7)] + [[8]])):
            setting = [0] * net.points
            self.assert_raises(NotLeading, period, net, 0)
            self.assert_raises(NotLeading, sent_times, net, setting, 0, 1)
            self.assert_raises(NotLeading, sent_times, net, setting, 0, 0)
            self.assert_raises(NotLeading, sent_back, net, setting, 0)
            self.assert_raises(NotLeading, tree_behind, net, setting)
            # These three are told of such nets, too.
            self.assertEqual([is_tree(net, setting), all_trees(net), many_trees(net)], [False, [], 0])

    def test_no_small_cut(self):
        five = Net(1, [[at, -1] for at in range(5)])
        tree, none = [0] * 5, [0, 0, 0, 1, 0]
        self.assertEqual([is_tree(five, tree), is_tree(five, none)], [True, False])
        for setting in (tree, none):
            for times in (0, 1, MOST):
                self.assert_raises(TooMany, sent_times, five, setting, 2, times)
        self.assert_raises(TooMany, sent_back, five, tree, 2)
        self.assert_raises(NotTree, sent_back, five, none, 2)
        self.assert_raises(TooMany, tree_behind, five, none)
        # Of a tree it is known at once.
        self.assertEqual(tree_behind(five, tree), (0, tree))
        self.assertEqual([period(five, 2), many_trees(five), all_trees(five)], [1, 1, [tree]])
        four = Net(1, [[at, -1] for at in range(4)] + [[-1]])
        self.assertEqual([sent_times(four, [1] * 4 + [0], 2, 1), tree_behind(four, [1] * 4 + [0])],
                         [[1, 1, 0, 1, 0], (1, [0] * 5)])


class Trees(unittest.TestCase):

    def test_all_settings(self):
        for leading in (True, False):
            for net, _ in random_nets(631, 120, points=5, exits=3, ends=3, leading=leading):
                trees = []
                for setting in settings_of(net):
                    right = plain_is_tree(net.exits(), setting)
                    self.assertIs(is_tree(net, setting), right)
                    self.assertIs(is_tree(net, tuple(setting)), right)
                    trees += [setting] * right
                self.assertEqual(all_trees(net), trees)
                self.assertEqual(many_trees(net), len(trees))
                self.assertEqual(trees == [], not is_leading(net))

    def test_alike_exits(self):
        net = Net(2, [[1, 1, 1, -1], [0, 0, -2, -2], [0, 1, -1, 2]])
        trees = [setting for setting in settings_of(net) if plain_is_tree(net.exits(), setting)]
        self.assertEqual([all_trees(net), many_trees(net)], [trees, len(trees)])

    def test_edges(self):
        self.assertEqual([all_trees(Net(1, [[-1]])), many_trees(Net(1, [[-1]]))], [[[0]], 1])
        self.assertEqual([all_trees(Net(1, [[-1, -1, 0]])), many_trees(Net(1, [[-1, -1, 0]]))], [[[1], [2]], 2])
        self.assertEqual([all_trees(Net(0, [[0, 0]])), many_trees(Net(0, [[0, 0]]))], [[], 0])
        self.assertEqual(many_trees(Net(0, [[1, 2], [2, 0], [0, 1]])), 0)
        self.assertEqual(many_trees(Net(1, [[1], [0], [-1, 0]])), 0)
        self.assertEqual(many_trees(Net(1, [[-1, 0], [2], [1]])), 0)

    def test_settings_bound(self):
        full = Net(1, [[at + 1, -1] for at in range(11)] + [[-1, -1]])
        self.assertEqual([many_settings(full), len(all_trees(full)), many_trees(full)], [4096, 4096, 4096])
        self.assertEqual(len(all_trees(Net(1, [[-1] * 4] * 6))), 4096)
        for net in (Net(1, [[-1] * 6] * 3 + [[-1] * 5, [-1] * 4]), Net(1, [[-1, -1]] * 13), Net(1, [[-1, -1]] * 24)):
            self.assertGreater(many_settings(net), 4096)
            with self.assertRaises(TooMany) as caught:
                all_trees(net)
            self.assertEqual([caught.exception.what, caught.exception.limit], ["settings", 4096])
            self.assertEqual(many_trees(net), many_settings(net))
        for net in (Net(0, [[0, 0]] * 13), Net(1, [[0] * 6] * 5)):
            with self.assertRaises(TooMany):
                all_trees(net)

    def test_big_nets(self):
        line = Net(1, [[0, at + 1] for at in range(23)] + [[0, -1]])
        self.assertEqual(many_trees(line), 1)
        # Of a whole net of points each of which leads to all others and to the end: as many as Cayley tells.
        for points in (2, 3, 4, 5, 6):
            whole = Net(1, [[other for other in range(points) if other != point] + [-1] for point in range(points)])
            self.assertEqual(many_trees(whole), (points + 1) ** (points - 1))
        for seed in range(10):
            net, setting = big_net(seed)
            self.assertGreater(many_trees(net), 0)
            self.assertIs(is_tree(net, setting), plain_is_tree(net.exits(), setting))


class Sending(unittest.TestCase):

    def some(self, seed, many, **kinds):
        for net, setting in random_nets(seed, many, leading=True, **kinds):
            if len(fewest_cut(net)) <= 4:
                yield net, setting

    def test_one_behind_the_other(self):
        for net, setting in self.some(641, 100, points=5, exits=4, ends=3):
            for begin in range(net.points):
                marks = setting
                for times in range(9):
                    told = sent_times(net, setting, begin, times)
                    self.assertEqual(told, marks)
                    self.assertEqual(told.__class__, list)
                    self.assertEqual(sent_times(net, tuple(setting), begin, times), told)
                    marks = plain_sent(net.exits(), marks, begin)

    def test_the_period(self):
        many = set()
        for net, setting in self.some(642, 150, points=4, exits=3, ends=3):
            trees = [setting for setting in settings_of(net) if plain_is_tree(net.exits(), setting)]
            for begin in range(net.points):
                right = period(net, begin)
                many.add(right)
                for tree in trees[:3]:
                    marks, times = plain_sent(net.exits(), tree, begin), 1
                    self.assertTrue(plain_is_tree(net.exits(), marks))
                    while marks != tree:
                        marks, times = plain_sent(net.exits(), marks, begin), times + 1
                    self.assertEqual(times, right)
                for tree in trees:
                    self.assertEqual(sent_times(net, tree, begin, right), tree)
                    self.assertEqual(sent_times(net, tree, begin, right * 10 ** 20), tree)
                # From any setting as many trains turn no point by a part of its exits, once a tree stands.
                later = sent_times(net, setting, begin, 500)
                self.assertEqual(sent_times(net, setting, begin, 500 + right), later)
        self.assertGreater(len(many), 5)

    def test_periods_of_big_nets(self):
        for seed in range(20):
            net, _ = big_net(seed, tracks=36)
            if len(good_cut(net)) > 4:
                continue
            _, tree = tree_behind(net, [0] * 24)
            for begin in (0, 23):
                right = period(net, begin)
                self.assertEqual(sent_times(net, tree, begin, right), tree)
                self.assertEqual(sent_times(net, sent_back(net, tree, begin), begin, 1), tree)
                for prime in (2, 3, 5, 7, 11, 13):
                    if right % prime == 0:
                        self.assertNotEqual(sent_times(net, tree, begin, right // prime), tree)

    def test_sent_back(self):
        for net, _ in self.some(643, 120, points=4, exits=3, ends=3):
            settings = settings_of(net)
            trees = [setting for setting in settings if plain_is_tree(net.exits(), setting)]
            for begin in range(net.points):
                behind = [plain_sent(net.exits(), tree, begin) for tree in trees]
                # Each tree stands behind just one tree.
                self.assertEqual(sorted(behind), trees)
                for tree in trees:
                    told = sent_back(net, tree, begin)
                    self.assertEqual(told, trees[behind.index(tree)])
                    self.assertEqual([told.__class__, sent_back(net, tuple(tree), begin)], [list, told])
                for setting in settings:
                    if setting not in trees:
                        self.assertRaises(NotTree, sent_back, net, setting, begin)

    def test_edges(self):
        self.assertEqual(sent_times(TWO, [1, 1], 0, 0), [1, 1])
        setting = [0, 1]
        told = sent_times(TWO, setting, 0, 0)
        told.append(0)
        self.assertEqual(setting, [0, 1])
        self.assertEqual(sent_times(PAIR, [0, 0], 0, MOST), [0, 0])
        self.assertEqual([period(Net(1, [[-1]]), 0), sent_back(Net(1, [[-1]]), [0], 0)], [1, [0]])
        wheel = Net(1, [[-1] * 6])
        self.assertEqual([period(wheel, 0), sent_times(wheel, [4], 0, MOST), sent_back(wheel, [0], 0)], [6, [(4 + MOST) % 6], [5]])
        # From a point that leads to one alone, the other isn't turned.
        side = Net(1, [[-1, -1], [0, -1, -1]])
        self.assertEqual([period(side, 0), period(side, 1), sent_times(side, [0, 2], 0, 3)], [2, 6, [1, 2]])


class Rounds(unittest.TestCase):

    def test_rounds_to_trees(self):
        words = []
        for net, _ in random_nets(651, 120, points=4, exits=3, ends=3, leading=True):
            if len(fewest_cut(net)) > 4:
                continue
            for setting in settings_of(net):
                marks, rounds = setting, 0
                while not plain_is_tree(net.exits(), marks):
                    _, marks = plain_visits(net.exits(), marks, [1] * net.points, 10 ** 6)
                    rounds += 1
                told = tree_behind(net, setting)
                self.assertEqual(told, (rounds, list(marks)))
                self.assertEqual([told.__class__, told[1].__class__], [tuple, list])
                self.assertEqual(tree_behind(net, tuple(setting)), told)
                words.append(rounds)
        self.assertEqual(sorted(set(words)), [0, 1])

    def test_a_tree_is_told_as_a_new_list(self):
        setting = [0, 1]
        tree_behind(TWO, setting)[1].append(0)
        self.assertEqual(setting, [0, 1])

    def test_settings_that_come_again(self):
        chance = random.Random(652)
        for net, setting in random_nets(653, 60, points=3, exits=3, ends=2, leading=True):
            if len(fewest_cut(net)) > 4:
                continue
            # Sent from each point again and again: what is no tree is never there again.
            marks, seen = setting, []
            for _ in range(40):
                _, marks = plain_visits(net.exits(), marks, one_at(net.points, chance.randrange(net.points)), 10 ** 6)
                _, marks = plain_visits(net.exits(), marks, [1] * net.points, 10 ** 6)
                seen.append(list(marks))
            self.assertEqual(setting in seen, plain_is_tree(net.exits(), setting) and setting in seen)
            self.assertTrue(all(is_tree(net, one) for one in seen))


if __name__ == "__main__":
    unittest.main()
