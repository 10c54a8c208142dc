"""All settings, the longest run, points to turn and exits to swap [8b]."""

import itertools
import random
import unittest

from flippedpoints.cuts import good_cut
from flippedpoints.errors import InvalidEnd, InvalidExit, InvalidNet, InvalidPoint, InvalidSetting, NotLeading, TooMany
from flippedpoints.mends import better_swaps, by_settings, fewest_turned, longest, swapped_exits
from flippedpoints.nets import Net, many_settings
from tests.support import PAIR, Call, CallTests
from tests.support import big_net, plain_entered, plain_lost, random_nets, trapped, wrong_indexes, wrong_nets, wrong_settings

TWO = Net(2, [[1, -1], [0, 1, -2]])
FORK = Net(2, [[-1, 1], [-2, 1]])
NETS = (InvalidNet, wrong_nets())
POINTS = (InvalidPoint, wrong_indexes(2) + [-2])
SPOTS = (InvalidExit, wrong_indexes(3) + [-3])
# Six points that all lead to themselves: 4096 settings, and each cut has all six points.
WHOLE = Net(1, [[point, (point + 1) % 6, (point + 3) % 6, -1 if point == 5 else (point + 2) % 6] for point in range(6)])


def settings_of(net):
    return [list(setting) for setting in itertools.product(*[range(len(row)) for row in net.exits()])]


def outcomes(net, begin):
    """For each setting where its train comes, None for nowhere, and how many steps its run has."""
    exits = net.exits()
    lost = plain_lost(net.ends, exits)
    told = []
    for setting in settings_of(net):
        where, visits = plain_entered(exits, setting, begin, lost)
        told.append((setting, -1 - where if where < 0 else None, sum(visits)))
    return told


def plain_swaps(net, setting, begin, end):
    exits = net.exits()
    lost = plain_lost(net.ends, exits)
    found = []
    for point, row in enumerate(exits):
        for spot, other in itertools.combinations(range(len(row)), 2):
            rows = net.exits()
            rows[point][spot], rows[point][other] = row[other], row[spot]
            if row[spot] != row[other] and plain_entered(rows, setting, begin, lost)[0] == -1 - end:
                found.append((point, spot, other))
    return found


class MendsCalls(CallTests, unittest.TestCase):

    def calls(self):
        train = {"net": TWO, "setting": [0, 1], "begin": 1, "end": 1}
        wrong = {"net": NETS, "setting": (InvalidSetting, wrong_settings(TWO, [0, 1])), "begin": POINTS,
                 "end": (InvalidEnd, wrong_indexes(2) + [-2])}
        return [
            Call(by_settings, {"net": TWO, "begin": 1}, {"net": NETS, "begin": POINTS}),
            Call(longest, {"net": TWO, "begin": 1}, {"net": NETS, "begin": POINTS}),
            Call(fewest_turned, train, wrong),
            Call(swapped_exits, {"net": TWO, "point": 1, "spot": 0, "other": 2},
                 {"net": NETS, "point": POINTS, "spot": SPOTS, "other": SPOTS}),
            Call(better_swaps, train, wrong),
        ]

    def assert_too_many(self, what, limit, function, *arguments):
        with self.assertRaises(TooMany) as caught:
            function(*arguments)
        self.assertEqual([caught.exception.what, caught.exception.limit], [what, limit])

    def test_settings_bound(self):
        just = Net(2, [[at + 1, -1] for at in range(11)] + [[-1, -2]] + [[0]] * 12)
        self.assertEqual([many_settings(just), by_settings(just, 23)], [4096, [4095, 1, 0]])
        self.assertEqual(longest(just, 12), (13, [0] * 24))
        self.assertEqual(fewest_turned(just, [1] * 12 + [0] * 12, 0, 1), (11, [[0] * 11 + [1] + [0] * 12]))
        for net in (Net(1, [[-1, -1]] * 13), Net(1, [[-1] * 6] * 3 + [[-1] * 5, [-1] * 4]), Net(1, [[-1] * 6] * 10)):
            self.assertGreater(many_settings(net), 4096)
            setting = [0] * net.points
            self.assert_too_many("settings", 4096, by_settings, net, 0)
            self.assert_too_many("settings", 4096, longest, net, 0)
            self.assert_too_many("settings", 4096, fewest_turned, net, setting, 0, 0)
            self.assertRaises(InvalidPoint, by_settings, net, net.points)
            self.assertRaises(InvalidPoint, longest, net, net.points)
            self.assertRaises(InvalidEnd, fewest_turned, net, setting, 0, 1)
            # For these two it is no matter.
            self.assertEqual(better_swaps(net, setting, 0, 0), [])
            self.assertEqual(swapped_exits(net, 1, 0, 1), net)

    def test_longest_of_nets_that_are_not_leading(self):
        for net in (Net(1, [[1, -1], [1]]), Net(0, [[0]]), Net(1, [[0, 0]] * 13), Net(0, [[0] * 6] * 10)):
            with self.assertRaises(NotLeading) as caught:
                longest(net, 0)
            self.assertIs(caught.exception.__class__, NotLeading)
            self.assertRaises(InvalidPoint, longest, net, 20)

    def test_mends_bound(self):
        # All four points are to be turned, to any of their other exits: 5 * 5 * 4 * 4 ways.
        row = Net(2, [[-1] + [1] * 5, [-1] + [2] * 5, [-1] + [3] * 4, [-1] + [-2] * 4])
        told = fewest_turned(row, [0, 0, 0, 0], 0, 1)
        self.assertEqual([told[0], len(told[1]), told[1][0], told[1][-1]], [4, 400, [1, 1, 1, 1], [5, 5, 4, 4]])
        wide = Net(2, [[-1] + [1] * 5, [-1] + [2] * 5, [-1] + [3] * 4, [-1] + [-2] * 5])
        self.assertEqual(many_settings(wide), 1080)
        self.assert_too_many("mends", 400, fewest_turned, wide, [0, 0, 0, 0], 0, 1)
        # There are as many settings with more turned points, but none of them is told.
        self.assertEqual(fewest_turned(wide, [1, 1, 1, 0], 0, 1), (1, [[1, 1, 1, spot] for spot in range(1, 6)]))
        # Too many of both: the settings are told first.
        self.assert_too_many("settings", 4096, fewest_turned, Net(1, [[-1, -1]] * 13), [0] * 13, 0, 0)
        # 401 of them can't be: but 405 can.
        three = Net(2, [[-1] + [1] * 3, [-1] + [2] * 3, [-1] + [3] * 3, [-1] + [4] * 3, [-1] + [-2] * 5])
        self.assert_too_many("mends", 400, fewest_turned, three, [0] * 5, 0, 1)


class SettingsTests(unittest.TestCase):

    def test_small_nets(self):
        never = several = 0
        for leading in (True, False):
            for net, setting in random_nets(872, 120, points=4, exits=3, ends=3, leading=leading):
                for begin in range(net.points):
                    told = outcomes(net, begin)
                    right = [sum(end == one for _, one, _ in told) for end in list(range(net.ends)) + [None]]
                    self.assertEqual(by_settings(net, begin), right)
                    never += right[-1] > 0
                    if leading:
                        most = max(steps for _, _, steps in told)
                        first = [one for one, _, steps in told if steps == most]
                        self.assertEqual(longest(net, begin), (most, first[0]))
                        several += len(first) > 1
                    for end in range(net.ends):
                        found = [(sum(one != two for one, two in zip(setting, other)), other) for other, one, _ in told if one == end]
                        fewest = min(found)[0] if found else None
                        right = (fewest, [other for apart, other in found if apart == fewest]) if found else None
                        self.assertEqual(fewest_turned(net, setting, begin, end), right)
                        self.assertEqual(fewest_turned(net, tuple(setting), begin, end), right)
        self.assertGreater(min(never, several), 20)

    def test_kinds(self):
        told = longest(PAIR, 0)
        self.assertEqual([told, told.__class__, told[1].__class__], [(6, [0, 0]), tuple, list])
        told = fewest_turned(FORK, [0, 0], 0, 1)
        self.assertEqual([told, told.__class__, told[1].__class__, told[1][0].__class__], [(1, [[1, 0]]), tuple, list, list])
        setting = [0, 0]
        told = fewest_turned(FORK, setting, 0, 0)
        self.assertEqual(told, (0, [[0, 0]]))
        told[1][0].append(0)
        self.assertEqual(setting, [0, 0])

    def test_edges(self):
        self.assertEqual([by_settings(Net(0, [[0, 0]]), 0), by_settings(Net(6, [[-6]]), 0)], [[2], [0, 0, 0, 0, 0, 1, 0]])
        self.assertEqual([longest(Net(1, [[-1]]), 0), longest(Net(1, [[0, -1, 0, 0, -1]]), 0)], [(1, [0]), (3, [2])])
        # Nothing leads to the end 1; or the train is lost by each setting.
        self.assertIsNone(fewest_turned(Net(2, [[-1, 0]]), [0], 0, 1))
        self.assertIsNone(fewest_turned(Net(1, [[1, 1], [1], [-1]]), [0, 0, 0], 0, 0))
        # By points that aren't visited no setting is better.
        self.assertEqual(fewest_turned(Net(2, [[-1, -2], [-1, -2]]), [0, 1], 0, 1), (1, [[1, 1]]))

    def test_runs_of_the_longest_kind(self):
        line = Net(1, [[0, at + 1] for at in range(11)] + [[0, -1]])
        self.assertEqual([by_settings(line, 0), longest(line, 0), longest(line, 11)], [[4096, 0], (8190, [0] * 12), (4096, [0] * 12)])
        told = outcomes(WHOLE, 3)
        most = max(steps for _, _, steps in told)
        self.assertEqual([many_settings(WHOLE), len(good_cut(WHOLE)) > 4, by_settings(WHOLE, 3)], [4096, True, [4096, 0]])
        self.assertEqual(longest(WHOLE, 3), (most, [one for one, _, steps in told if steps == most][0]))
        # All ends are lost from some points on.
        trap = trapped(2, 12, 3)
        right = [sum(one == end for _, one, _ in outcomes(trap, 0)) for end in (0, 1, None)]
        self.assertEqual(by_settings(trap, 0), right)
        self.assertGreater(min(right), 0)


class SwapsTests(unittest.TestCase):

    def test_swapped(self):
        for net, _ in random_nets(881, 60, points=4, exits=4, ends=3):
            for point, row in enumerate(net.exits()):
                for spot, other in itertools.product(range(len(row)), repeat=2):
                    told = swapped_exits(net, point, spot, other)
                    rows = net.exits()
                    rows[point][spot], rows[point][other] = row[other], row[spot]
                    self.assertEqual([told.__class__, told.ends, told.exits()], [Net, net.ends, rows])
                    self.assertEqual(swapped_exits(told, point, other, spot), net)
                    if spot == other or row[spot] == row[other]:
                        self.assertEqual(told, net)

    def test_better(self):
        chance = random.Random(882)
        numbers = []
        for leading in (True, False):
            for net, setting in random_nets(883, 150, points=5, exits=4, ends=3, leading=leading):
                for begin in range(net.points):
                    for end in range(net.ends):
                        right = plain_swaps(net, setting, begin, end)
                        told = better_swaps(net, setting, begin, end)
                        self.assertEqual([told, told == sorted(told)], [right, True])
                        numbers.append(len(right))
                if net.ends:
                    begin, end = chance.randrange(net.points), chance.randrange(net.ends)
                    self.assertEqual(better_swaps(net, tuple(setting), begin, end), better_swaps(net, setting, begin, end))
        self.assertGreater(len(set(numbers)), 5)

    def test_edges(self):
        # Exits with alike targets are no swap; those of a point that isn't visited, a lost one too, are, if it comes anyway.
        self.assertEqual(better_swaps(Net(1, [[-1, -1], [-1, 0, -1]]), [0, 0], 0, 0), [(1, 0, 1), (1, 1, 2)])
        self.assertEqual(better_swaps(Net(1, [[-1], [1, 2], [2, 1, 1]]), [0, 0, 0], 0, 0), [(1, 0, 1), (2, 0, 1), (2, 0, 2)])
        self.assertEqual(better_swaps(Net(1, [[-1, 1], [1, 2], [2, 1]]), [0, 0, 0], 0, 0), [(1, 0, 1), (2, 0, 1)])
        self.assertEqual(better_swaps(Net(1, [[-1, 1], [1, 2], [2, 1]]), [1, 0, 0], 0, 0), [(0, 0, 1)])
        self.assertEqual(better_swaps(Net(6, [[0, -6, -1]]), [0], 0, 0), [(0, 0, 2), (0, 1, 2)])
        told = better_swaps(FORK, [0, 0], 0, 1)
        self.assertEqual([told, told[0].__class__], [[(0, 0, 1)], tuple])

    def test_cuts_of_any_number(self):
        five = Net(2, [[at, at + 1, -1] for at in range(4)] + [[4, -2]])
        for setting in ([0] * 5, [1, 0, 2, 1, 1], [2, 2, 0, 0, 1]):
            for end in range(2):
                self.assertEqual(better_swaps(five, setting, 0, end), plain_swaps(five, setting, 0, end))
        for seed in range(4):
            net, setting = big_net(seed, ends=3)
            for end in (0, 2):
                self.assertEqual(better_swaps(net, setting, 5, end), plain_swaps(net, setting, 5, end))

    def test_long_runs(self):
        line = Net(1, [[0, at + 1] for at in range(23)] + [[0, -1]])
        self.assertEqual(better_swaps(line, [0] * 24, 0, 0), [(at, 0, 1) for at in range(24)])
        # More than five thousand million steps, and the last point tells the end: it leads there by its third exit.
        row = Net(3, [[0, 0, at + 1] for at in range(19)] + [[-1, -2, -3]])
        self.assertEqual(better_swaps(row, [0] * 19 + [2], 0, 1), [(19, 1, 2)])
        self.assertEqual(better_swaps(row, [0] * 19 + [0], 0, 1), [(19, 0, 1)])
        self.assertEqual(better_swaps(row, [0] * 20, 0, 0), [(at, spot, 2) for at in range(19) for spot in range(2)] + [(19, 1, 2)])


if __name__ == "__main__":
    unittest.main()
